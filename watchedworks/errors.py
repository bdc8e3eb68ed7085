"""The errors of the package, each with what it was made with."""


class WorksError(ValueError):
    """What each error of this package is."""


class BadStart(WorksError):
    def __init__(self, value):
        super().__init__("the start is not a state")
        self.value = value


class BadSteps(WorksError):
    def __init__(self, at):
        super().__init__("the steps, or the one at this index, are not as they must be")
        self.at = at


class BadHands(WorksError):
    def __init__(self, at):
        super().__init__("the hands, or the one at this index, are not as they must be")
        self.at = at


class BadBars(WorksError):
    def __init__(self, at):
        super().__init__("the bars, or the one at this index, are not as they must be")
        self.at = at


class BadFaults(WorksError):
    def __init__(self, value):
        super().__init__("the faults, or this word of theirs, are not as they must be")
        self.value = value


class BadSecrets(WorksError):
    def __init__(self, value):
        super().__init__("the secrets, or this name of theirs, are not as they must be")
        self.value = value


class BadDiligent(WorksError):
    def __init__(self, value):
        super().__init__("the diligent hands, or this one of them, are not as they must be")
        self.value = value


class BadStanding(WorksError):
    def __init__(self, standing):
        super().__init__("this is not a standing that can be asked for")
        self.standing = standing


class BadName(WorksError):
    def __init__(self, value):
        super().__init__("this is not a name, or not one that can be used here")
        self.value = value


class BadWord(WorksError):
    def __init__(self, word):
        super().__init__("this is not a word that can be used here")
        self.word = word


class BadRun(WorksError):
    def __init__(self, at):
        super().__init__("the run, or its item at this index, is not as it must be")
        self.at = at


class BadPost(WorksError):
    def __init__(self, value):
        super().__init__("this is not a post")
        self.value = value


class BadSights(WorksError):
    def __init__(self, value):
        super().__init__("the sights are not as they must be")
        self.value = value


class BadWords(WorksError):
    def __init__(self, value):
        super().__init__("the words are not as they must be")
        self.value = value


class BadCost(WorksError):
    def __init__(self, value):
        super().__init__("this is not a cost")
        self.value = value


class BadInstrument(WorksError):
    def __init__(self, at):
        super().__init__("the instruments, or the one at this index, are not as they must be")
        self.at = at


class BadSet(WorksError):
    def __init__(self, value):
        super().__init__("the set, or this item of it, is not as it must be")
        self.value = value


class BadFault(WorksError):
    def __init__(self, fault):
        super().__init__("the works has no such fault")
        self.fault = fault


class BadSecret(WorksError):
    def __init__(self, secret):
        super().__init__("the works has no such secret")
        self.secret = secret


class BadCount(WorksError):
    def __init__(self, count):
        super().__init__("this is not a number that can be asked for")
        self.count = count


class BadFlag(WorksError):
    def __init__(self, flag):
        super().__init__("this is not a flag")
        self.flag = flag


class BadWish(WorksError):
    def __init__(self, value):
        super().__init__("this is not a wish that can be used here")
        self.value = value


class BadWishes(WorksError):
    def __init__(self, at):
        super().__init__("the wishes, or the one at this index, are not as they must be")
        self.at = at


class BadIndex(WorksError):
    def __init__(self, at):
        super().__init__("there is nothing with this index")
        self.at = at


class BadText(WorksError):
    def __init__(self, at):
        super().__init__("the text, or its line with this number, is not as it must be")
        self.at = at


class NotGood(WorksError):
    def __init__(self, at):
        super().__init__("the set does not fulfil the wish with this index")
        self.at = at


class NothingDone(WorksError):
    def __init__(self):
        super().__init__("there is no deed to take back")


class TooMany(WorksError):
    def __init__(self, limit):
        super().__init__("there are more than this limit allows")
        self.limit = limit
