"""Where makers lead behind events."""

from anymaker.fields import Field, Lots
from anymaker.ground import Ground
from anymaker.machine import Machine
from anymaker.refusing import judge_choice, judge_events


def lot_behind(document, program, choice, events):
    """The standings that come behind just these events, in the order in which standings are met."""
    judge_choice(document, program, choice)
    judge_events(events)
    machine = Machine(Ground(document, program), choice)
    machine.begin()
    field = Field([machine], [0])
    lots = Lots(field, False)
    index = lots.behind_all(lots.least(field.begins), events)
    if index is None:
        return ()
    return tuple([field.told(number) for number in lots.rows[index]])
