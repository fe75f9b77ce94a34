"""Steps as texts: a line for each step."""

from tillsteps.checks import MOST_STEPS, RANGES, RULED, RULES, check_steps
from tillsteps.errors import InvalidText


def write(steps):
    """The text of the steps."""
    check_steps(steps)
    return "\n".join([" ".join([str(thing) for thing in step]) for step in steps])


def words_of(line):
    """The words of the line: what stands between its spaces."""
    return [word for word in line.split(" ") if word != ""]


def choices_of(word):
    """For each place behind the first word of a step a dict of the words that can stand there, with what they tell."""
    low, high = RANGES[word]
    # Only words that str writes are among these, which "+5", "05" and "-0" are not.
    numbers = {str(number): number for number in range(low, high + 1)}
    if word in RULED:
        return [numbers, {rule: rule for rule in RULES}]
    return [numbers]


def step_of(words, line):
    """The step that the words of this line tell; raises InvalidText."""
    if not words or words[0] not in RANGES:
        raise InvalidText(line, 1)
    choices = choices_of(words[0])
    things = [words[0]]
    # Where the words end too early, the word behind them is the first one that is wrong.
    for place, told in enumerate(choices):
        at = place + 1
        if at == len(words) or words[at] not in told:
            raise InvalidText(line, at + 1)
        things.append(told[words[at]])
    if len(words) > len(things):
        raise InvalidText(line, len(things) + 1)
    return tuple(things)


def read(text):
    """The steps that the text tells; raises InvalidText."""
    if text == "":
        return ()
    steps = []
    for index, line in enumerate(text.split("\n")):
        if index == MOST_STEPS:
            raise InvalidText(index + 1, 1)
        steps.append(step_of(words_of(line), index + 1))
    return tuple(steps)
