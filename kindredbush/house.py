"""A house, in which joints and fits come and go."""

from kindredbush.acts import stand_after
from kindredbush.bars import bar_of
from kindredbush.coins import due, way
from kindredbush.errors import BadAct, NothingDone, UnknownName
from kindredbush.scripts import price
from kindredbush.standings import is_form
from kindredbush.words import check_known, is_word

MOST_ACTS = 120


class House:
    """A stand with the acts that led to it, the acts that were undone, and marks."""

    def __init__(self, grove):
        # The stands that were come through, one more than there are done acts; the last one is the present one.
        self._stands = [(grove, (), None)]
        self._acts = []
        self._further = []
        self._marks = {}

    def grove(self):
        """The present grove."""
        return self._stands[-1][0]

    def goal(self):
        """The goal, or None."""
        return self._stands[-1][2]

    def nails(self):
        """The list of the nailed places, in order."""
        return list(self._stands[-1][1])

    def stand(self):
        """The present stand."""
        return self._stands[-1]

    def kin(self):
        """The present table."""
        return self.grove().bag().table()

    def do(self, act):
        """Do an act, and return the number of done acts."""
        return self.tried([act])

    def undo(self):
        """Lead back to the stand before the last done act, and return the number of done acts."""
        if not self._acts:
            raise NothingDone()
        self._stands.pop()
        self._further.insert(0, self._acts.pop())
        return len(self._acts)

    def redo(self):
        """Do the first undone act again, and return the number of done acts."""
        if not self._further:
            raise NothingDone()
        act = self._further.pop(0)
        self._stands.append(stand_after(self.stand(), act))
        self._acts.append(act)
        return len(self._acts)

    def done(self):
        """The list of the done acts."""
        return list(self._acts)

    def undone(self):
        """The list of the undone acts, the first one first."""
        return list(self._further)

    def tried(self, acts):
        """Do all acts of a list, or none if one is refused, and return the number of done acts."""
        stands = self._stands_behind(acts)
        self._stands.extend(stands)
        self._acts.extend(acts)
        if stands:
            self._further = []
        return len(self._acts)

    def would(self, acts):
        """The stand behind the acts of a list."""
        return ([self.stand()] + self._stands_behind(acts))[-1]

    def _stands_behind(self, acts):
        """The list of the stands behind each of some acts."""
        found = []
        stand = self.stand()
        for act in acts:
            stand = stand_after(stand, act)
            if len(self._acts) + len(found) == MOST_ACTS:
                raise BadAct("many")
            found.append(stand)
        return found

    def paid(self):
        """The coins that the deeds among the done acts cost."""
        return price([act for act in self._acts if is_form(act)])

    def due(self):
        """What is due to the goal, or None without a goal."""
        if self.goal() is None:
            return None
        return due(self.grove(), self.goal())

    def waste(self):
        """The coins wasted since the goal was given, or None without a goal."""
        if self.goal() is None:
            return None
        given = max([number for number, act in enumerate(self._acts) if act[0] == "goal"]) + 1
        grove, nails, goal = self._stands[given]
        spent = price([act for act in self._acts[given:] if is_form(act)])
        return spent - due(grove, goal) + self.due()

    def left(self):
        """The fewest coins to the goal, or None without a goal or if the table has a bar."""
        if bar_of(self.kin()) is not None:
            return None
        return self.due()

    def way(self):
        """A way to the goal for the fewest coins, or None where left is None."""
        if self.left() is None:
            return None
        return way(self.grove(), self.goal())

    def keep(self, name):
        """Keep the present grove under a name."""
        if not is_word(name):
            raise UnknownName(name)
        self._marks[name] = self.grove()

    def marks(self):
        """The list of the names of the marks, in the order in which they first were kept."""
        return list(self._marks)

    def marked(self, name):
        """The grove under a name."""
        check_known(name, self.marks())
        return self._marks[name]

    def due_to(self, name):
        """What is due from the present grove to the one under a name."""
        return due(self.grove(), self.marked(name))

    def twin(self):
        """An equal house that goes its own way."""
        other = House(self._stands[0][0])
        other._take_past(self._stands, self._acts, self._further, self._marks)
        return other

    def _take_past(self, stands, acts, further, marks):
        """Take over the stands, the acts and the marks of another house."""
        self._stands = list(stands)
        self._acts = list(acts)
        self._further = list(further)
        self._marks = {name: grove for name, grove in marks.items()}

    def __eq__(self, other):
        return (isinstance(other, House) and self._stands[0] == other._stands[0] and self._acts == other._acts
                and self._further == other._further
                and list(self._marks.items()) == list(other._marks.items()))
