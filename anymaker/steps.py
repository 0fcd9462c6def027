"""What a step leads to, without and with an event."""

from anymaker.documents import options_of


def silent_nexts(step):
    """The standings behind a step without an event, whatever is answered."""
    if step[0] == "goes" and step[1] is None:
        return [step[2]]
    if step[0] == "chooses":
        return [number for number in step[3] if number is not None]
    return []


def event_nexts(step):
    """The pairs of an event that can come next and the standing behind it."""
    if step[0] == "goes" and step[1] is not None:
        return [(step[1], step[2])]
    if step[0] == "asks":
        return [(("asked", number), reached) for number, reached in enumerate(step[1])]
    return []


def answers_of(machine, number):
    """The pairs of an option, None where none is asked for, and the standing behind it without an event."""
    step = machine.step(number)
    if step[0] != "chooses":
        return [(None, reached) for reached in silent_nexts(step)]
    let = options_of(machine.ground.document, step[1])
    return [(option, reached) for option, reached in zip(let, step[3]) if reached is not None]


def can_ruin(step):
    """Whether the run can be ruined by this step."""
    return step[0] == "ruined" or step[0] == "chooses" and None in step[3]


def makes_end(step, end):
    """Whether a standing with this step makes the end, which is not "never"."""
    if end == "more":
        return len(event_nexts(step)) > 0
    if end == "ruined":
        return can_ruin(step)
    if end == "waits":
        return step[0] == "asks"
    return step[0] == "ends"


def silently_behind(machine, numbers):
    """These standings and all to which steps without an event lead from them, as they are met."""
    found = []
    seen = {}
    pending = list(numbers)
    while pending:
        number = pending.pop()
        if number not in seen:
            seen[number] = True
            found.append(number)
            pending.extend(silent_nexts(machine.step(number)))
    return found


def endless_of(nexts):
    """Of a dict from each number to those behind it: the dict of those that can go on for ever."""
    heights = heights_of(nexts)
    return {number: True for number in nexts if number not in heights}


def heights_of(nexts):
    """How many steps each number can go on at most, but for those that can go on for ever.

    All with nothing behind them are taken away, over and over.
    """
    ahead = {number: [] for number in nexts}
    many = {}
    for number in nexts:
        many[number] = len(nexts[number])
        for reached in nexts[number]:
            ahead[reached].append(number)
    found = {}
    over = [number for number in nexts if not many[number]]
    while over:
        number = over.pop()
        found[number] = max([found[reached] + 1 for reached in nexts[number]], default=0)
        for one in ahead[number]:
            many[one] -= 1
            if not many[one]:
                over.append(one)
    return found


def has_round(machine, numbers):
    """Whether a lot with all that comes behind it without an event has a silent round."""
    return len(endless_of({number: silent_nexts(machine.step(number)) for number in numbers})) > 0


def round_from(machine, number, endless):
    """The answers on a silent way that never ends, and the index of the one behind which they come again."""
    return round_along(lambda one: answers_of(machine, one), number, endless)


def round_along(ways_at, number, endless):
    """The same by a function from a number to its pairs of an answer, or None, and a number behind it.

    The index is None if nothing is asked for on the round.
    """
    answers = []
    seen = {}
    while number not in seen:
        seen[number] = len(answers)
        option, number = [pair for pair in ways_at(number) if pair[1] in endless][0]
        if option is not None:
            answers.append(option)
    again = seen[number]
    return answers, again if again < len(answers) else None
