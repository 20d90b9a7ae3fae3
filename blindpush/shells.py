"""A shell that answers commands to a bench with texts."""

from blindpush.checks import is_number_within
from blindpush.errors import BadLength, BadTurn, Busy, Impossible, NoPlace, NoTool, NothingToUndo, OverBudget
from blindpush.errors import TooManyEdits
from blindpush.texts import places_text, plan_text, read_number, tool_text

UNKNOWN = "unknown command"
MAX_WORD = 10 ** 10 - 1


def answer_push(bench, turn, index):
    """Push and return the answer."""
    return f"ok {bench.push(turn, index)}"


def answer_learn(bench, begin, length):
    """Learn and return the answer."""
    return f"ok {bench.learn(begin, length)}"


def answer_undo(bench):
    """Undo and return the answer."""
    return f"ok {bench.undo()}"


def answer_possible(bench):
    """Return the text of the possible places."""
    return places_text(bench.possible())


def answer_spread(bench):
    """Return the spread of the possible places as a text."""
    return str(bench.spread())


def answer_remaining(bench, goal):
    """Return as a text how many pushes remain."""
    pushes = bench.remaining(goal)
    return "never" if pushes is None else str(pushes)


def answer_plan(bench, goal):
    """Return the text of the plan for the goal."""
    plan = bench.plan(goal)
    return "never" if plan is None else plan_text(plan)


def answer_tools(bench):
    """Return the texts of the tools."""
    return ", ".join([tool_text(tool) for tool in bench.tools])


# Each command by its word and by how many numbers stand behind it.
COMMANDS = {
    ("push", 2): answer_push,
    ("learn", 2): answer_learn,
    ("undo", 0): answer_undo,
    ("possible", 0): answer_possible,
    ("spread", 0): answer_spread,
    ("remaining", 1): answer_remaining,
    ("plan", 1): answer_plan,
    ("tools", 0): answer_tools,
}


def is_word_number(value):
    """Return whether the value, or None, is a number that a command can have."""
    return is_number_within(value, -MAX_WORD, MAX_WORD)


class Shell:
    """Works on the very bench that it is given."""

    def __init__(self, bench):
        self.bench = bench

    def execute(self, line):
        """Return the answer to any value: to a command what it does, to everything else that it is unknown."""
        if not isinstance(line, str):
            return UNKNOWN
        words = line.split(" ")
        numbers = [read_number(word) for word in words[1:]]
        command = (words[0], len(numbers))
        if command not in COMMANDS or not all([is_word_number(number) for number in numbers]):
            return UNKNOWN
        return self.answer(command, numbers)

    def answer(self, command, numbers):
        """Return what the command answers, or the name of the error that the bench raises."""
        action = COMMANDS[command]
        try:
            return action(self.bench, *numbers)
        except Busy:
            return "error Busy"
        except TooManyEdits:
            return "error TooManyEdits"
        except BadTurn:
            return "error BadTurn"
        except NoTool:
            return "error NoTool"
        except OverBudget:
            return "error OverBudget"
        except NoPlace:
            return "error NoPlace"
        except BadLength:
            return "error BadLength"
        except Impossible:
            return "error Impossible"
        except NothingToUndo:
            return "error NothingToUndo"
