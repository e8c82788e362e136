"""All errors of the program."""


class SlotError(ValueError):
    """The base class of all errors."""


class NotCondition(SlotError):
    """The expression has no fault, but it is not a condition."""


class NotInside(SlotError):
    """The one part is not inside the other one."""


class StatesDiffer(SlotError):
    """The two parts have different states."""


class TooManyTrees(SlotError):
    """There are finitely many trees, but more than are counted."""


class NotAProduct(SlotError):
    """The tuple is not a product of the catalogue."""


class NoProducts(SlotError):
    """The catalogue has no products."""


class TooManyChanges(SlotError):
    """No further change can be kept for undoing."""


class AlreadyChosen(SlotError):
    """There is a choice for the same thing already."""


class TooManyChoices(SlotError):
    """There are as many choices as there can be."""


class NotAvailable(SlotError):
    """The choice holds of no product that is left."""


class NotChosen(SlotError):
    """There is no choice for this thing."""


class NothingWithinBudget(SlotError):
    """No product within the budget satisfies all choices."""


class UnknownVariable(SlotError):
    """A variable of the expression is not known."""

    def __init__(self, name):
        super().__init__(f"no variable is called {name}")
        self.name = name


class DuplicatePort(SlotError):
    """Two port kinds have the same name."""

    def __init__(self, name):
        super().__init__(f"two port kinds are called {name}")
        self.name = name


class DuplicateAttribute(SlotError):
    """Two attributes of a port kind or component have the same name."""

    def __init__(self, name):
        super().__init__(f"two attributes are called {name}")
        self.name = name


class EmptyRange(SlotError):
    """The range of an attribute has no integers."""

    def __init__(self, name):
        super().__init__(f"the range of {name} is empty")
        self.name = name


class DuplicateOption(SlotError):
    """An option of an attribute occurs twice."""

    def __init__(self, name):
        super().__init__(f"an option of {name} occurs twice")
        self.name = name


class DuplicateComponent(SlotError):
    """Two components have the same name."""

    def __init__(self, name):
        super().__init__(f"two components are called {name}")
        self.name = name


class UnknownPort(SlotError):
    """No port kind has the name."""

    def __init__(self, name):
        super().__init__(f"no port kind is called {name}")
        self.name = name


class DuplicateSlot(SlotError):
    """Two slots of a component have the same name."""

    def __init__(self, name):
        super().__init__(f"two slots are called {name}")
        self.name = name


class UnknownComponent(SlotError):
    """No component has the name."""

    def __init__(self, name):
        super().__init__(f"no component is called {name}")
        self.name = name


class WrongOperands(SlotError):
    """An operator has operands of kinds that it does not take."""

    def __init__(self, operator):
        super().__init__(f"the operands of {operator} have wrong kinds")
        self.operator = operator


class ConditionTooLarge(SlotError):
    """The expression of a text has too many places or is too deep."""

    def __init__(self, places, depth):
        super().__init__(f"the condition has {places} places and a depth of {depth}")
        self.places = places
        self.depth = depth


class TooManyStates(SlotError):
    """A definition has too many port states."""

    def __init__(self, count):
        super().__init__(f"there are {count} port states")
        self.count = count


class TooManyAssignments(SlotError):
    """The components have too many assignments together."""

    def __init__(self, count):
        super().__init__(f"there are {count} assignments")
        self.count = count


class InvalidRule(SlotError):
    """A rule is not a condition for the variables of its component."""

    def __init__(self, component, number):
        super().__init__(f"rule {number} of {component} is not a condition")
        self.component = component
        self.number = number


class InvalidCharge(SlotError):
    """A charge has no condition for the variables of its component."""

    def __init__(self, component, number):
        super().__init__(f"charge {number} of {component} has no condition")
        self.component = component
        self.number = number


class UnknownColumn(SlotError):
    """A column of a table is no variable of the component."""

    def __init__(self, component, number, name):
        super().__init__(f"table {number} of {component}: no variable is called {name}")
        self.component = component
        self.number = number
        self.name = name


class DuplicateColumn(SlotError):
    """A column occurs twice in a table."""

    def __init__(self, component, number, name):
        super().__init__(f"table {number} of {component}: {name} occurs twice")
        self.component = component
        self.number = number
        self.name = name


class TooManyParts(SlotError):
    """A tree that would be returned has too many parts."""

    def __init__(self, count):
        super().__init__(f"the tree has {count} parts")
        self.count = count


class Incompatible(SlotError):
    """Two catalogues are not compatible."""

    def __init__(self, reason):
        super().__init__(f"the catalogues differ: {reason}")
        self.reason = reason


class NotReplayable(SlotError):
    """An entry of a journal cannot be carried out."""

    def __init__(self, place):
        super().__init__(f"entry {place} cannot be carried out")
        self.place = place


class LineError(SlotError):
    """A text does not denote a definition."""

    def __init__(self, line):
        super().__init__(f"line {line}")
        self.line = line


class UnknownLine(LineError):
    """The line has none of the forms."""


class MisplacedLine(LineError):
    """A line of this form cannot stand there."""


class InvalidCondition(LineError):
    """The condition of the line is not read."""


class DefinitionTooLarge(LineError):
    """The line makes the definition too large."""


class MissingLine(LineError):
    """Further lines have to follow."""


class TextError(SlotError):
    """A text is not read as a condition."""

    def __init__(self, place):
        super().__init__(f"character {place}")
        self.place = place


class UnexpectedCharacter(TextError):
    """No token begins with the character."""


class NumberTooLong(TextError):
    """A number has too many digits."""


class WordTooLong(TextError):
    """A word has too many characters."""


class InvalidOption(TextError):
    """An option is not closed, or it has no or too many characters."""


class TooManyTokens(TextError):
    """The text has too many tokens."""


class UnexpectedToken(TextError):
    """The tokens up to this one do not begin any condition."""


class NestedTooDeeply(TextError):
    """The token begins a level inside too many others."""


class UnexpectedEnd(TextError):
    """The tokens begin a condition, but do not form one."""
