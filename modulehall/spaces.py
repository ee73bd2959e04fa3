"""To whom a name belongs when rows run: one space for each kind of block.

`target` returns the dict into which a name is written, `origin` the one from which it is read, and `call` the call
around the rows, or None.
"""


class ModuleSpace:
    """The block of a module."""

    def __init__(self, module):
        self.module = module

    def target(self, name):
        """Return the module's names, whatever the name."""
        return self.module.has

    def origin(self, name):
        """Return the module's names, whatever the name."""
        return self.module.has

    def call(self):
        """Return None: there is no call around the rows of a module."""
        return None


class CallSpace:
    """The block of a def, in one call."""

    def __init__(self, called, values):
        self.module = called.module
        self.called = called
        self.has = {name: value for name, value in zip(called.parameters, values)}

    def target(self, name):
        """Return the names of the call or of the module to which a name belongs."""
        if name in self.called.tops:
            return self.module.has
        space = self
        while space is not None:
            if name in space.called.own:
                return space.has
            space = space.called.around
        return self.module.has

    def origin(self, name):
        """Return the same as for writing: no other place is searched."""
        return self.target(name)

    def call(self):
        """Return this call."""
        return self


class BoxSpace:
    """The block of a box, in the space around it."""

    def __init__(self, box, around):
        self.module = box.module
        self.box = box
        self.around = around

    def target(self, name):
        """Return the box's names, whatever the name."""
        return self.box.has

    def origin(self, name):
        """Return the box's names if the box has the name, else those from which it is read around the box."""
        if name in self.box.has:
            return self.box.has
        return self.around.origin(name)

    def call(self):
        """Return the call around the box."""
        return self.around.call()
