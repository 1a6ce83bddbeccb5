"""Rows of deeds of a desk, for the package's desk and the plain one alike."""

import plain_story
from plain_desk import Wrong
from tilesregrow.errors import NoName, TileError

NAMES = ("a", "b", "c1", "world", "like")

SMALL = ("registers a\ncolours c\n", "registers a\ncolours c\ninc a\n", "registers a\ncolours c d\npaint d\n")

NO_NAMES = (None, 5, True, ("a",), ["a"], b"a", 1.5)

TASKS = ("edit",) * 6 + ("add",) * 4 + ("put",) * 3 + ("keep",) * 7 + ("release",) * 2 + (
    "drop", "rename", "rename", "holds", "holds", "undo", "undo", "undo", "redo", "redo", "get_story", "get_world",
    "attempt", "attempt", "attempt", "trial", "trial")


def deed_line(rng):
    return rng.choice((
        "grow 99", "grow 99", "grow 5", "rounds 3", "wash", "cell 1 1", "cell 0 1", "cut 0 0 3 1", "slip 7 7 3",
        "slip 1 1 4", "come 1 0 1", "come 0 1 2", "slip 7 7 999"))


def story_text(rng):
    lines = [f"values {rng.randrange(4)}", *rng.choice(SMALL)[:-1].split("\n"), "bed"]
    lines += [deed_line(rng) for _ in range(rng.randrange(4))]
    text = "\n".join(lines) + "\n"
    return plain_story.spoiled(rng, text[:-1]) + "\n" if rng.random() < 0.1 else text


def file_text(rng, many=None):
    text = ""
    for _ in range(rng.randrange(1, 4) if many is None else many):
        head = rng.choice(NAMES) if rng.random() < 0.95 else rng.choice(("A", "", "a b", "a ", "1"))
        text += f"world {head}\n" + story_text(rng)
    return text if rng.random() < 0.97 else rng.choice(("", "\n", "x\n" + text, text + "\n", text + "world", None, 5))


def promise_text(rng, names):
    one, two = rng.choice(names), rng.choice(names)
    text = rng.choice((
        f"{one} right", f"{one} right", f"{one} whole", f"{one} lacks {rng.choice((0, 3, 9, 16, 99))}",
        f"{one} tells {rng.randrange(3)} {rng.randrange(4)}", f"{one} heals {rng.choice((0, 5, 9, 30))}",
        f"{one} heals 30", f"{one} like {two}", f"{one} lacks 99"))
    kind = rng.random()
    if kind < 0.05:
        return rng.choice(("", " ", "a", "a ", text + " ", text + "\n", " " + text, text.upper(), text + " 1", "a b",
                           text[:-1], "a tells 1", "a tells 1 1,", "a heals -1", "a lacks", "a like", "a like B", "5"))
    return rng.choice((None, 5, ("a right",), b"a right")) if kind < 0.07 else text


def edit_text(rng):
    if rng.random() < 0.08:
        return rng.choice((None, 7, "world x", "wash\nworld", "worlds", "\n", "", "bed", "values 2", "grow 1\n\n",
                           "paint e\nworld a", "values 1,2"))
    return "\n".join(deed_line(rng) for _ in range(rng.choice((0, 1, 1, 1, 2))))


def task(rng, desk, depth=0):
    """A method of a desk, with what it is passed; in attempts and trials a list of tasks and how they end."""
    word = rng.choice(TASKS)
    known = desk.item_names() if desk.item_names() and rng.random() < 0.9 else NAMES
    name = rng.choice(known) if rng.random() < 0.97 else rng.choice(NO_NAMES)
    if word in ("attempt", "trial"):
        if depth == 3:
            return ("broken",)
        tasks = [task(rng, desk, depth + 1) for _ in range(rng.randrange(5))]
        return (word, tasks, rng.choice(("well", "well", "well", "own", "other", "passed on")))
    if word == "put":
        return (word, file_text(rng))
    if word == "add":
        return (word, name, edit_text(rng))
    if word == "edit":
        many = len(shown(desk.get_story(name)).split("\n")) if name in desk.item_names() else 5
        number = rng.randrange(max(1, many - 2), many + 1) if rng.random() < 0.8 else rng.randrange(1, 9)
        number = number if rng.random() < 0.96 else rng.choice((0, -1, True, None, 99))
        return (word, name, number, edit_text(rng))
    if word == "release" and desk.promises() and rng.random() < 0.8:
        return (word, rng.choice(desk.promises()))
    if word in ("keep", "release", "holds"):
        return (word, promise_text(rng, known))
    if word == "rename":
        return (word, name, rng.choice(NAMES) if rng.random() < 0.9 else rng.choice((*NO_NAMES, "", "A", "a" * 13)))
    return (word,) if word in ("undo", "redo") else (word, name)


class Other(Exception):
    """An error that is none of the package."""


def shown(value):
    """What can be compared of what a method returns."""
    if hasattr(value, "deeds"):
        return value.text
    return value.bed.pairs() if hasattr(value, "bed") else value


def told_error(error):
    if isinstance(error, Wrong):
        return error.told
    return (error.__class__.__name__, *vars(error).values())


def do(desk, deed, log):
    """Do a task; what comes is written into the log. Errors of methods are caught, those that end an attempt too."""
    word, *passed = deed
    log.append(deed if word not in ("attempt", "trial") else word)
    try:
        if word in ("attempt", "trial"):
            tasks, end = passed
            log.append(shown(getattr(desk, word)(lambda held: act(held, desk, tasks, end, log))))
        else:
            log.append(shown(getattr(desk, word)(*passed)))
    except (TileError, Wrong, Other) as error:
        log.append(told_error(error))
        return error
    return None


def act(held, desk, tasks, end, log):
    """The action of an attempt or a trial."""
    assert held is desk
    error = None
    for number, deed in enumerate(tasks):
        error = do(held if number % 2 else desk, deed, log) or error
        log.append((held.lines(), held.item_names(), held.promises()))
    log.append(held.broken())
    if end == "own":
        raise NoName("own")
    if end == "other":
        raise Other()
    if end == "passed on" and error is not None:
        raise error
    return ("result", len(tasks))
