"""What a pair of hearing aids keeps: what's set, and what's heard."""

MOMENTS = 16
BANDS = 8
TAPS = 16
LOUDNESSES = 16
WEIGHTS = 8
BACKS_KEPT = 7
TURNED_KEPT = 15
PUT_KEPT = 4096
BLOCKS_KEPT = 256


# One ear. The rows of what was heard have the oldest number first.
class Ear:
    def __init__(self):
        self.gains = [[0] * LOUDNESSES for band in range(BANDS)]
        self.delay = 0
        self.part = 0
        self.way = 16
        self.rate = 0
        self.most = 32767
        self.step = 0
        self.strength = 0
        self.backs = [0] * BACKS_KEPT
        self.turned = [0] * TURNED_KEPT
        self.put = [0] * PUT_KEPT
        self.weights = [0] * WEIGHTS
        self.levels = [0] * BANDS
        self.busy = [0] * 4
        self.phase = 0


# Both ears (0: left, 1: right), and what is set for both at once.
class Pair:
    def __init__(self):
        self.renew()

    def renew(self):
        self.taps = [[0] * TAPS for band in range(BANDS)]
        self.attack = 32767
        self.release = 1024
        self.coupled = 0
        self.lessen = 0
        self.ears = [Ear(), Ear()]
