"""Workshops: cams under names, wishes that always hold, and changes that can be taken back."""

from framecams.cams import check_cam
from framecams.errors import Broken, InUse, InvalidIndex, InvalidName, InvalidWish, NothingToUndo, UnknownName
from framecams.parts import is_name
from framecams.ratios import is_whole_within
from framecams.wishes import holds, is_wish, names_in


class State:
    """The cams, the wishes, and what both were before each change; nothing of a state is changed once it is made."""

    def __init__(self, cams, asked, before):
        self.cams = cams
        self.asked = asked
        self.before = before


class Mark:
    """What a statement leads back to, and the mark of the statement around it, None for the outermost one."""

    def __init__(self, state, outer):
        self.state = state
        self.outer = outer


class Trial:
    """A value for `with` statements: if one ends with an exception, the workshop is as when it began."""

    def __init__(self, shop):
        self.shop = shop
        self.mark = None

    def __enter__(self):
        self.mark = Mark(self.shop.state, self.mark)
        return self.shop

    def __exit__(self, kind, value, trace):
        shop = self.shop
        if kind is not None:
            shop.state = self.mark.state
        self.mark = self.mark.outer


class Workshop:
    """Cams under names, with wishes about them that hold after each change."""

    def __init__(self):
        self.state = State({}, (), ())

    def put(self, name, cam):
        """Put a cam under a name, or another one in its place."""
        if not is_name(name):
            raise InvalidName(name)
        check_cam(cam)
        cams = dict(self.state.cams)
        cams[name] = cam
        for index, wish in enumerate(self.state.asked):
            # All wishes hold so far: only those with the name can be broken.
            if name in names_in(wish) and not holds(wish, cams):
                raise Broken(index)
        self._change(cams, self.state.asked)

    def drop(self, name):
        """Take away the cam under the name."""
        self._check_known(name)
        for index, wish in enumerate(self.state.asked):
            if name in names_in(wish):
                raise InUse(index)
        self._change({kept: cam for kept, cam in self.state.cams.items() if kept != name}, self.state.asked)

    def wish(self, wish):
        """Add a wish, which holds from now on."""
        if not is_wish(wish):
            raise InvalidWish(wish)
        for name in names_in(wish):
            self._check_known(name)
        if not holds(wish, self.state.cams):
            raise Broken(len(self.state.asked))
        self._change(self.state.cams, self.state.asked + (wish,))

    def lift(self, index):
        """Take away the wish with the index."""
        asked = self.state.asked
        if not is_whole_within(index, 0, len(asked) - 1):
            raise InvalidIndex(index)
        self._change(self.state.cams, asked[:index] + asked[index + 1:])

    def named(self, name):
        """The cam under the name."""
        self._check_known(name)
        return self.state.cams[name]

    def undo(self):
        """Take back the last change that is not taken back yet."""
        before = self.state.before
        if len(before) == 0:
            raise NothingToUndo()
        cams, asked = before[-1]
        self.state = State(cams, asked, before[:-1])

    def trial(self):
        """A value for `with` statements, after which, if they end with an exception, all is as when they began."""
        return Trial(self)

    def tried(self, action):
        """Call the function with the workshop within such a statement, and return what it returns."""
        with self.trial() as shop:
            return action(shop)

    @property
    def names(self):
        """The names of the cams, ascending."""
        return tuple(sorted(list(self.state.cams)))

    @property
    def wishes(self):
        """The wishes in the order in which they were made."""
        return self.state.asked

    def __len__(self):
        return len(self.state.before)

    def __bool__(self):
        return True

    def __contains__(self, name):
        return isinstance(name, str) and name in self.state.cams

    def _change(self, cams, asked):
        """Take over other cams and wishes by one change, which can be taken back."""
        state = self.state
        self.state = State(cams, asked, state.before + ((state.cams, state.asked),))

    def _check_known(self, name):
        """Raise UnknownName for what is no name of a cam here."""
        if not isinstance(name, str) or name not in self.state.cams:
            raise UnknownName(name)
