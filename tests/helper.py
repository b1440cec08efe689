"""What the tests share: calls put together and answers taken apart; and the document's words taken
literally, slow, and by another way than the program's, to hold its answers against."""

import itertools

from withinany.steps import answers

WITHIN = [2]
ALIKE = [3]
SHORTEST = [6]
SWAP = [7]


def one(code):
    return [0, len(code)] + code


def two(code):
    return [1, len(code)] + code


def leads(letters):
    return [4, len(letters)] + list(letters)


def straight(letters):
    return [5, len(letters)] + list(letters)


def ask(*calls):
    """The answers of these calls on one new object, a list each."""
    told = answers([number for call in calls for number in call])
    split = []
    place = 0
    while place < len(told):
        split.append(told[place + 1:place + 1 + told[place]])
        place += 1 + told[place]
    return split


def ask_within(first, second):
    return ask(one(first), two(second), WITHIN)[2]


def ask_alike(first, second):
    return ask(one(first), two(second), ALIKE)[2]


def ask_leads(second, letters):
    return ask(two(second), leads(letters))[1]


def ask_straight(first, second, letters):
    return ask(one(first), two(second), straight(letters))[2]


def ask_shortest(first):
    return ask(one(first), SHORTEST)[1]


def letter(number):
    return [1, number]


def again(code):
    return [4] + code


def order(*codes):
    """These codes in order, the last two innermost."""
    return list(codes[0]) if len(codes) == 1 else [2] + codes[0] + order(*codes[1:])


def either(*codes):
    return list(codes[0]) if len(codes) == 1 else [3] + codes[0] + either(*codes[1:])


def row(*letters):
    """These letters in order."""
    return order(*[letter(number) for number in letters])


def tree_of(code):
    """A right code as nested tuples."""
    tree, rest = read(list(code))
    assert rest == [], code
    return tree


def read(code):
    kind, rest = code[0], code[1:]
    if kind > 4 or kind == 1 and rest[0] not in (2, 3, 4, 5):
        raise ValueError(code)
    if kind == 0:
        return ("stay",), rest
    if kind == 1:
        return ("letter", rest[0]), rest[1:]
    if kind == 4:
        inner, rest = read(rest)
        return ("again", inner), rest
    left, rest = read(rest)
    right, rest = read(rest)
    return ("order" if kind == 2 else "either", left, right), rest


def is_code(code):
    try:
        return read(list(code))[1] == []
    except (IndexError, ValueError):
        return False


def compose(left, right):
    onward = {}
    for y, z in right:
        onward.setdefault(y, []).append(z)
    return {(x, z) for x, y in left for z in onward.get(y, ())}


def relation(tree, nodes, steps):
    """Where an expression leads, if steps tells for each letter from which node it leads to which."""
    if tree[0] == "stay":
        return {(x, x) for x in nodes}
    if tree[0] == "letter":
        return set(steps[tree[1]])
    if tree[0] == "again":
        inner = relation(tree[1], nodes, steps)
        whole = {(x, x) for x in nodes}
        while True:
            more = whole | compose(whole, inner)
            if more == whole:
                return whole
            whole = more
    left = relation(tree[1], nodes, steps)
    right = relation(tree[2], nodes, steps)
    return compose(left, right) if tree[0] == "order" else left | right


def steps_of_graph(edges):
    """edges: triples of a label (1 or 2), the node it comes from and the node it goes to."""
    steps = {2: set(), 3: set(), 4: set(), 5: set()}
    for label, x, y in edges:
        steps[2 * label].add((x, y))
        steps[2 * label + 1].add((y, x))
    return steps


def edges_of_line(letters):
    edges = []
    for i, letter in enumerate(letters, start=1):
        edges.append((letter // 2, i - 1, i) if letter in (2, 4) else (letter // 2, i, i - 1))
    return edges


def leads_along(tree, letters):
    nodes = range(len(letters) + 1)
    return (0, len(letters)) in relation(tree, nodes, steps_of_graph(edges_of_line(letters)))


def leads_straight(tree, letters):
    nodes = range(len(letters) + 1)
    steps = {2: set(), 3: set(), 4: set(), 5: set()}
    for i, letter in enumerate(letters):
        steps[letter].add((i, i + 1))
    return (0, len(letters)) in relation(tree, nodes, steps)


def size_of(tree):
    return 1 + sum(size_of(part) for part in tree[1:] if isinstance(part, tuple))


def letter_count(tree):
    if tree[0] == "letter":
        return 1
    return sum(letter_count(part) for part in tree[1:])


def letters_of(tree):
    if tree[0] == "letter":
        return {tree[1]}
    return set().union(*[letters_of(part) for part in tree[1:]])


def first_line_showing(one, two, longest):
    """The line that shows that one isn't within two, if it has at most so many letters; else None."""
    first, second = tree_of(one), tree_of(two)
    for length in range(longest + 1):
        for letters in itertools.product(sorted(letters_of(first)), repeat=length):
            if leads_straight(first, letters) and not leads_along(second, letters):
                return list(letters)
    return None


def first_straight_line(code):
    """The shortest line along which an expression leads straight, of as short ones the first."""
    tree = tree_of(code)
    for length in itertools.count():
        for letters in itertools.product(sorted(letters_of(tree)), repeat=length):
            if leads_straight(tree, letters):
                return list(letters)


def leads_within(one, two, nodes, edges):
    """Is it so in this one graph that the first leads only where the second does?"""
    steps = steps_of_graph(edges)
    return relation(tree_of(one), nodes, steps) <= relation(tree_of(two), nodes, steps)


def random_code(chance, letter_count, letters):
    """A code with so many letters, out of these; again and again and stay stand in it here and there."""
    if letter_count == 0:
        code = [0]
    elif letter_count == 1:
        code = [1, chance.choice(letters)]
    else:
        left = chance.randint(1, letter_count - 1)
        code = [chance.choice((2, 2, 3))]
        code += random_code(chance, left, letters) + random_code(chance, letter_count - left, letters)
    if chance.random() < 0.3:
        code = [4] + code
    if chance.random() < 0.1:
        code = [3, 0] + code
    return code


def padded(code, size):
    """The same expression with parts put around it that change nothing, until it has the size."""
    while size_of(tree_of(code)) < size:
        missing = size - size_of(tree_of(code))
        if code[0] == 4:
            code = [4] + code
        elif missing >= 2:
            code = [2, 0] + code
        else:
            raise ValueError("one part more would change it")
    return code
