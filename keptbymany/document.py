"""What the acts that were had make, in whatever order they came.

An entry is what stands at a map's key or a list's element: the id of the act that brought it, and its value.
"""

from keptbymany.acts import ADD, INSERT, PUT, REMOVE, SET
from keptbymany.bytenumbers import with_sign
from keptbymany.identities import ROOT
from keptbymany.sequence import Sequence
from keptbymany.valuekinds import COUNTER, LIST, MAP, NOTHING, is_object_kind


class Document:
    def __init__(self):
        self.kinds = {ROOT: MAP}
        self.maps = {ROOT: {}}
        self.sequences = {}
        self.sums = {}

    # None, which is no kind, where there is no such object.
    def kind_of(self, target):
        return self.kinds.get(target)

    def present(self, target):
        return self.sequences[target].present()

    def map_entries(self, target):
        entries = self.maps[target]
        keys = [key for key in sorted(entries) if entries[key][1][0] != NOTHING]
        return [(key, entries[key]) for key in keys]

    def list_entries(self, target):
        return self.sequences[target].entries_present()

    def sum_of(self, target):
        return with_sign(self.sums[target])

    def apply(self, act):
        self.bring_object(act)
        if act.change.kind == SET:
            self.change_map(act)
        elif act.change.kind == ADD:
            self.change_counter(act)
        else:
            self.change_list(act)

    # The object is there even if the act that brings it makes nothing else.
    def bring_object(self, act):
        value = act.change.value
        if value is None or not is_object_kind(value[0]):
            return
        identity = act.identity()
        self.kinds[identity] = value[0]
        if value[0] == MAP:
            self.maps[identity] = {}
        elif value[0] == LIST:
            self.sequences[identity] = Sequence()
        else:
            self.sums[identity] = 0

    # A key that is set to nothing keeps that entry: a set of a lesser id that comes later must not win.
    def change_map(self, act):
        if self.kind_of(act.change.target) != MAP:
            return
        entries = self.maps[act.change.target]
        key = tuple(act.change.key)
        if key not in entries or act.identity() > entries[key][0]:
            entries[key] = (act.identity(), act.change.value)

    def change_counter(self, act):
        if self.kind_of(act.change.target) == COUNTER:
            self.sums[act.change.target] += act.change.amount

    def change_list(self, act):
        if self.kind_of(act.change.target) != LIST:
            return
        change = act.change
        sequence = self.sequences[change.target]
        if change.kind == INSERT:
            sequence.place(act.identity(), change.element, change.value)
        elif change.kind == PUT:
            sequence.put(change.element, act.identity(), change.value)
        elif change.kind == REMOVE:
            sequence.take_out(change.element)
