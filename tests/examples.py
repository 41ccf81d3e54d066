"""Whole programs that several tests use."""

# body 1 is the factorial: it keeps a box that holds the function itself
FACTORIAL = [
    [
        ("num", 0), ("box",), ("keep",),
        ("fun", 1, (0,)), ("keep",),
        ("get", 0), ("get", 1), ("fill",),
        ("get", 1), ("num", 10), ("call",), ("keep",), ("get", 2), ("say",),
        ("get", 2), ("back",),
    ],
    [
        ("get", 1), ("unless", 11),
        ("get", 1),
        ("get", 0), ("open",), ("get", 1), ("num", 1), ("minus",), ("call",),
        ("times",), ("back",),
        ("num", 1), ("back",),
    ],
]

# two functions share the box that one fills and the other reads
SHARED = [
    [
        ("num", 5), ("box",), ("keep",),
        ("fun", 1, (0,)), ("num", 8), ("call",), ("say",),
        ("fun", 2, (0,)), ("num", 0), ("call",), ("say",),
        ("get", 0), ("back",),
    ],
    [("get", 0), ("get", 1), ("fill",), ("get", 0), ("back",)],
    [("get", 0), ("open",), ("back",)],
]

COUNTDOWN = [[
    ("num", 3), ("box",), ("keep",),
    ("get", 0), ("open",), ("say",),
    ("get", 0), ("get", 0), ("open",), ("num", 1), ("minus",), ("fill",),
    ("get", 0), ("open",), ("unless", 16), ("jump", 3),
    ("get", 0), ("say",), ("num", -1), ("back",),
]]

# a function that calls itself without end
ENDLESS = [
    [("num", 0), ("box",), ("keep",), ("fun", 1, (0,)), ("keep",), ("get", 0), ("get", 1), ("fill",),
     ("get", 1), ("num", 0), ("call",), ("back",)],
    [("get", 0), ("open",), ("num", 0), ("call",), ("back",)],
]

# a box that holds itself, and one that holds a function that keeps both boxes and is called again
RINGS = [
    [
        ("num", 0), ("box",), ("keep",), ("get", 0), ("get", 0), ("fill",),
        ("num", 0), ("box",), ("keep",), ("fun", 1, (0, 1, 0)), ("keep",),
        ("get", 1), ("get", 2), ("fill",),
        ("get", 0), ("open",), ("open",), ("get", 0), ("same",), ("say",),
        ("get", 1), ("open",), ("num", 3), ("call",), ("say",),
        ("get", 1), ("back",),
    ],
    [
        ("get", 3), ("unless", 13), ("get", 0), ("say",),
        ("get", 1), ("open",), ("get", 3), ("num", 1), ("minus",), ("call",),
        ("get", 3), ("say",), ("back",),
        ("get", 1), ("open",), ("back",),
    ],
]

# makes boxes that nothing leads to any longer, so that the numbers of things have gaps
WASTE = [[
    ("num", 4), ("keep",),
    ("num", 7), ("box",), ("drop",),
    ("get", 0), ("box",), ("get", 0), ("num", 1), ("minus",), ("keep",),
    ("fun", 0, ()), ("box",), ("box",), ("open",), ("drop",), ("open",), ("say",),
    ("num", 5), ("box",), ("box",), ("open",), ("open",), ("say",),
    ("get", 1), ("box",), ("get", 0), ("same",), ("say",),
    ("num", 6), ("box",), ("back",),
]]

# says without end
CHATTER = [[("num", 1), ("say",), ("jump", 0)]]

# each gets stuck by its word, with a box that is shared
STUCK_PROGRAMS = {
    word: [[("num", 2), ("box",), ("keep",), ("get", 0), ("get", 0), ("say",)] + last]
    for word, last in {
        "end": [("jump", 7)],
        "empty": [("add",)],
        "own": [("get", 1)],
        "kind": [("num", 1), ("less",)],
        "great": [
            ("num", 10 ** 12), ("keep",), ("get", 1), ("get", 1), ("times",), ("get", 1), ("times",),
        ],
        "full": [("get", 0), ("jump", 6)],
    }.items()
}
STUCK_PROGRAMS["deep"] = ENDLESS

EXAMPLES = [FACTORIAL, SHARED, COUNTDOWN, RINGS, WASTE, *STUCK_PROGRAMS.values()]
