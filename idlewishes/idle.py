"""Parts of wishes that do not matter on a machine, and parts that rest the blame."""

from idlewishes.keeping import is_kept, judged, paper_on, run_against
from idlewishes.machines import need_machine
from idlewishes.wishes import hardened, is_plain, need_path, need_wish, paths, put_at

WORDS = ("idle", "matters")


def is_idle(machine, wish, path):
    """Whether the part at a path is idle."""
    return interesting_run(machine, wish, path) is None


def idle_parts(machine, wish):
    """The ascending tuple of the paths of all idle parts."""
    need_machine(machine)
    return tuple([path for path in paths(wish) if is_kept(machine, hardened(wish, path))])


def passes_idly(machine, wish):
    """Whether there is an idle part."""
    return len(idle_parts(machine, wish)) > 0


def highest_idle(machine, wish):
    """The ascending tuple of the paths of the idle parts that stand in no other one."""
    idle = idle_parts(machine, wish)
    return tuple([path for path in idle if not any([path[:most] in idle for most in range(len(path))])])


def interesting_run(machine, wish, path):
    """A run that does not keep the wish hardened at a path, or None."""
    need_machine(machine)
    return run_against(machine, hardened(wish, path))


def idle_paper(machine, wish, path):
    """A paper on whether the part at a path is idle."""
    need_machine(machine)
    return paper_on(machine, hardened(wish, path), WORDS)


def check_idle(machine, wish, path, paper):
    """The word of a paper that holds."""
    need_machine(machine)
    return judged(machine, hardened(wish, path), paper, WORDS)


def softened(wish, path):
    """The wish with the constant at a path that is not the worst one."""
    if is_plain(wish, path):
        return put_at(wish, path, ("true",))
    return put_at(wish, path, ("false",))


def rests_on(machine, wish, path):
    """Whether the part at a path rests the blame of the wish."""
    need_machine(machine)
    need_path(wish, path)
    return not is_kept(machine, wish) and is_kept(machine, softened(wish, path))


def blamed_parts(machine, wish):
    """The ascending tuple of the paths of all parts that rest the blame."""
    need_machine(machine)
    need_wish(wish)
    if is_kept(machine, wish):
        return ()
    return tuple([path for path in paths(wish) if is_kept(machine, softened(wish, path))])
