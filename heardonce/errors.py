"""The errors of this package, those of all its parts."""


class HeardError(ValueError):
    """The base class of all errors of this package."""


class InvalidFrame(HeardError):
    """What should be a frame is none."""


class InvalidTopic(HeardError):
    """What should be a topic is none."""


class InvalidWish(HeardError):
    """What should be a wish is none."""


class InvalidWay(HeardError):
    """What should be a way is none."""


class InvalidText(HeardError):
    """What should be the text of something is none."""


class InvalidManner(HeardError):
    """What should be a manner is none."""


class InvalidNames(HeardError):
    """What should be names, or a name that is there, is not."""


class InvalidSide(HeardError):
    """What should be a side is none."""


class InvalidWorld(HeardError):
    """What should be a world is none."""


class InvalidEvent(HeardError):
    """What should be an event is none."""


class InvalidEvents(HeardError):
    """What should be a tuple of events is none."""


class CannotHappen(HeardError):
    """An event can't happen."""


class InvalidWishes(HeardError):
    """What should be a tuple of wishes is none."""


class InvalidLot(HeardError):
    """What should be a lot of wishes is none."""


class InvalidWishTree(HeardError):
    """What should be a wish tree is none."""


class InvalidRights(HeardError):
    """What should be rights is none."""


class InvalidDeed(HeardError):
    """What should be a deed is none."""


class InvalidCard(HeardError):
    """What should be a card is none."""


class InvalidSizes(HeardError):
    """What should be sizes of windows is none."""


class InvalidState(HeardError):
    """What should be a state is none."""


class InvalidSign(HeardError):
    """What should be a sign is none."""


class InvalidMemory(HeardError):
    """What should be a memory is none."""


class InvalidChange(HeardError):
    """What should be a change is none."""


class InvalidChanges(HeardError):
    """What should be a tuple of changes is none."""


class CannotChange(HeardError):
    """A change can't be done."""


class InvalidDisk(HeardError):
    """What should be a disk is none."""


class InvalidDiary(HeardError):
    """What should be a diary is none."""


class InvalidStop(HeardError):
    """What should be a stop is none."""


class InvalidNumber(HeardError):
    """What should be a number is none."""


class Unlike(HeardError):
    """What should be alike is not."""


class InvalidHouse(HeardError):
    """What should be a house is none."""


class InvalidStep(HeardError):
    """What should be a step is none."""


class InvalidSteps(HeardError):
    """What should be a tuple of steps is none."""


class CannotStep(HeardError):
    """A step can't be done."""


class InvalidPlan(HeardError):
    """What should be a plan is none."""


class InvalidYard(HeardError):
    """What should be a yard is none."""


class InvalidLane(HeardError):
    """What should be a lane is none."""


class InvalidMark(HeardError):
    """What should be a mark is none."""


class InvalidAct(HeardError):
    """What should be an act is none."""


class InvalidActs(HeardError):
    """What should be a tuple of acts is none."""


class InvalidMesh(HeardError):
    """What should be a mesh is none."""


class InvalidMeshEvent(HeardError):
    """What should be a mesh event is none."""


class InvalidMeshManner(HeardError):
    """What should be the manner of a mesh is none."""


class InvalidBridges(HeardError):
    """What should be bridges is none."""


class InvalidPool(HeardError):
    """What should be a pool is none."""


class InvalidTale(HeardError):
    """What should be a tale is none."""


class InvalidFacts(HeardError):
    """What should be facts is none."""


class NothingToUndo(HeardError):
    """There is nothing to be taken back."""


class NothingToRedo(HeardError):
    """There is nothing to be told on again."""


class InvalidOctets(HeardError):
    """Octets are not those of frames; `at` is the index of the first wrong one."""

    def __init__(self, at):
        HeardError.__init__(self, f"wrong octets, from the one at {at} on")
        self.at = at


class TooMany(HeardError):
    """There are more things than a limit, `limit`, lets be."""

    def __init__(self, limit):
        HeardError.__init__(self, f"more than the limit of {limit}")
        self.limit = limit
