"""A run: orders one after another, till one of its ends is met."""

from drumdesk.orders import do_order, is_punching

TRAY_MOST = 64

STOPPED = 0
ALL_BEGUN = 1
TICK_MET = 2
STOP_MET = 3
PAUSED = 4
TRAY_FULL = 5


class Run:
    def __init__(self, machine, stops):
        self.machine = machine
        self.stops = stops
        self.begun = 0
        self.hopper_before = list(machine.hopper)
        self.tray_before = len(machine.tray)


# The hopper's cards are read from its front, so those that are gone are the first.
def cards_read(run):
    return run.hopper_before[:len(run.hopper_before) - len(run.machine.hopper)]


def punched(run):
    return len(run.machine.tray) - run.tray_before


def end_before_order(run, orders, until):
    machine = run.machine
    if machine.state != 0:
        return STOPPED
    if run.begun >= orders:
        return ALL_BEGUN
    if machine.tick >= until:
        return TICK_MET
    if run.begun > 0 and machine.order_at in run.stops:
        return STOP_MET
    if len(machine.tray) >= TRAY_MOST and is_punching(machine.drum[machine.order_at]):
        return TRAY_FULL
    return None


# A run ends as soon as its pause is reached, so asking after any order is asking after a punching one.
def go_on(run, orders, until, pause):
    while True:
        end = end_before_order(run, orders, until)
        if end is not None:
            return end
        do_order(run.machine)
        run.begun += 1
        if pause > 0 and punched(run) == pause:
            return PAUSED


# A run that's played: stops, ticks and the tray cut it when it was noted, so they aren't asked again.
def go_through(run, orders):
    while run.begun < orders and run.machine.state == 0:
        do_order(run.machine)
        run.begun += 1
