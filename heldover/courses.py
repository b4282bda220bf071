"""What plain runs and executions have in common: how they come to the entries of a story."""

from heldover.errors import UnknownName
from heldover.stories import strictly_equal

MARK = ("mark",)


class Course:
    """A run or an execution while it goes on, and what it came to.

    passed has the marks without an entry at which the old arm is taken; None stands for all of them, as in an old run.
    A branch has the marks in a list that are passed on the way to where it stands.
    """

    def __init__(self, version, task, epoch, story, passed):
        self.version = version
        self.kind_table = version.kinds()
        self.task_name = task
        self.epoch = epoch
        self.told = story
        self.may_pass = passed
        self.waiting = {}
        self.different = {}
        self.came = {}
        self.passing = {}
        self.proven = {}

    def come_to(self, index, branch):
        """Comes to an entry; all marks on the way to it are passed by this."""
        self.came[index] = True
        for mark in branch.marks:
            self.proven[mark] = True

    def fits(self, question, answer):
        """Whether an answer is of the kind that the version declares."""
        try:
            if question[0] == "ask":
                return self.kind_table.is_value(self.version.door(question[1])[1], answer)
            if question[0] == "receive":
                return self.kind_table.is_value(self.version.key(question[1]), answer[1])
        except UnknownName:
            return False
        return True

    def problem_of(self, question, entry):
        """The problem of an entry at a step that makes this question, or None."""
        if not strictly_equal(entry[0], question):
            return "question"
        if entry[1] is not None and not self.fits(question, entry[1]):
            return "answer"
        return None

    def answer_at(self, index, question, branch):
        """The answer at a step that makes this question, None if the branch waits or has a difference there."""
        entry = self.told.get(index)
        if entry is not None:
            problem = self.problem_of(question, entry)
            if problem is not None:
                self.different[index] = (problem, question)
                return None
            self.come_to(index, branch)
        if entry is None or entry[1] is None:
            self.waiting[index] = question
            return None
        return entry[1]

    def arm_at(self, index, branch):
        """Which arm is taken at a mark, "new" or "old"; None if the branch waits or has a difference there."""
        entry = self.told.get(index)
        if entry is None:
            if self.may_pass is not None and index not in self.may_pass:
                self.waiting[index] = MARK
                return None
            self.passing[index] = True
            branch.marks.append(index)
            return "old"
        if not strictly_equal(entry[0], MARK):
            self.different[index] = ("question", MARK)
            return None
        self.come_to(index, branch)
        return "new"
