"""A document that many keep, without a middle."""
