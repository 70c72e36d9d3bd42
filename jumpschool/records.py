"""What a school keeps: kinds of jumps, jumpers, gear, and the groups aboard."""


class Kind:
    def __init__(self, licence, jumps, days):
        self.licence = licence
        self.jumps = jumps
        self.days = days


# wears is a piece of gear's number, or None.
class Jumper:
    def __init__(self, licence, jumps, weight, today):
        self.licence = licence
        self.jumps = jumps
        self.weight = weight
        self.last_day = today
        self.wears = None


# jumps are those since it was looked at. Who wears it is kept with the jumper alone, so that the two can't differ.
class Gear:
    def __init__(self, bears, today):
        self.bears = bears
        self.packed = True
        self.packed_on = today
        self.jumps = 0


# kind is a kind's number, members are jumpers' numbers: always rising, so that the first is the least.
class Group:
    def __init__(self, kind, first):
        self.kind = kind
        self.members = [first]


# load is a list of the groups aboard, none of them without members.
class School:
    def __init__(self):
        self.begun = False
        self.begin_anew(0, 0, 0)

    def begin_anew(self, seats, pack_days, metres):
        self.seats = seats
        self.pack_days = pack_days
        self.metres = metres
        self.day = 0
        self.wind = 0
        self.kinds = []
        self.jumpers = []
        self.gear = []
        self.load = []
        self.loads_flown = 0
