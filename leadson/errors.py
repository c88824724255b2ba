"""The refusals: one class each, all straight under LeadError."""


class LeadError(ValueError):
    pass


class BadLeading(LeadError):
    pass


class BadPlace(LeadError):
    pass


class BadSteps(LeadError):
    pass


class Unlike(LeadError):
    pass


class NotBack(LeadError):
    pass
