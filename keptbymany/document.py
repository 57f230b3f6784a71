"""What the acts that were had make, in whatever order they came."""

from keptbymany.acts import INSERT, REMOVE
from keptbymany.identities import ROOT
from keptbymany.sequence import Sequence
from keptbymany.valuekinds import LIST, MAP, is_object_kind


class Document:
    def __init__(self):
        self.kinds = {ROOT: MAP}
        self.sequences = {}

    # None, which is no kind, where there is no such object.
    def kind_of(self, target):
        return self.kinds.get(target)

    def present(self, target):
        return self.sequences[target].present()

    def apply(self, act):
        self.bring_object(act)
        sequence = self.sequences.get(act.change.target)
        if sequence is None:
            return
        if act.change.kind == INSERT:
            sequence.place(act.identity(), act.change.element)
        elif act.change.kind == REMOVE:
            sequence.take_out(act.change.element)

    # The object is there even if the act that brings it makes nothing else.
    def bring_object(self, act):
        value = act.change.value
        if value is None or not is_object_kind(value[0]):
            return
        self.kinds[act.identity()] = value[0]
        if value[0] == LIST:
            self.sequences[act.identity()] = Sequence()
