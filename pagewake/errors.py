"""The errors of the package."""


class PageFault(ValueError):
    """What all errors of the package are below."""


class ProgramFault(PageFault):
    """A program that cannot be used, and the first place where this shows."""

    def __init__(self, component, place, reason):
        PageFault.__init__(self, f"component {component}, place {place}: {reason}")
        self.component = component
        self.place = place
        self.reason = reason
