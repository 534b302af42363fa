"""What the tests have in common: formats, calls, and a plain second way
to find all scannings, prints, furthest places and kept texts, against which
the program is held."""

from allscannings.formats import answers

DIGITS = "0123456789"
LETTERS = "abcdefghijklmnopqrstuvwxyz"


def lit(text):
    return ("literal", text)


def num(lo, hi):
    return ("number", lo, hi)


def word(lo, hi):
    return ("word", lo, hi)


def alt(first, second):
    return ("alternatives", first, second)


def opt(*row):
    return ("optional", list(row))


def rep(separator, lo, hi, *row):
    return ("repeat", separator, lo, hi, list(row))


def text_list(text):
    return [len(text)] + [ord(sign) for sign in text]


def row_list(row):
    numbers = [len(row)]
    for piece in row:
        numbers.extend(piece_list(piece))
    return numbers


def piece_list(piece):
    kind = piece[0]
    if kind == "literal":
        return [0] + text_list(piece[1])
    if kind == "number":
        return [1, piece[1], piece[2]]
    if kind == "word":
        return [2, piece[1], piece[2]]
    if kind == "alternatives":
        return [3] + row_list(piece[1]) + row_list(piece[2])
    if kind == "optional":
        return [4] + row_list(piece[1])
    return [5] + text_list(piece[1]) + [piece[2], piece[3]] + row_list(piece[4])


def with_count(numbers):
    return [len(numbers)] + list(numbers)


def raw_format(numbers):
    """The call format with just these numbers as its list."""
    return [0] + with_count(numbers)


def raw_print(numbers):
    return [1] + with_count(numbers)


def raw_scan(numbers):
    return [2] + with_count(numbers)


def raw_count(numbers):
    return [3] + with_count(numbers)


def raw_kth(number, numbers):
    return [4, number] + with_count(numbers)


def raw_far(numbers):
    return [5] + with_count(numbers)


def raw_again(numbers):
    return [6] + with_count(numbers)


def least_call():
    return [7]


def ambiguous_call():
    return [8]


def texts_call(length):
    return [9, length]


def format_call(*row):
    return raw_format(row_list(row))


def print_call(*value):
    return raw_print(with_count(value))


def scan_call(text):
    return raw_scan(text_list(text))


def count_call(text):
    return raw_count(text_list(text))


def kth_call(number, text):
    return raw_kth(number, text_list(text))


def far_call(text):
    return raw_far(text_list(text))


def again_call(*value):
    return raw_again(with_count(value))


def run(*calls):
    """The answers to the calls, made on one object: a list for each."""
    line = [number for call in calls for number in call]
    given = answers(line)
    split = []
    place = 0
    while place < len(given):
        split.append(given[place + 1:place + 1 + given[place]])
        place += 1 + given[place]
    assert place == len(given) and len(split) == len(calls)
    return split


def scanned(*value):
    """What scan answers, if the text has this first scanning."""
    return [1] + with_count(value)


def plain_scannings(row, text):
    """All scannings in order, each found for itself."""
    return [tuple(value) for value, rest in row_ways(row, text) if rest == ""]


def row_ways(row, text):
    """Ways to read a row at the text's beginning: value and what's left."""
    if not row:
        return [([], text)]
    return [
        (value + more, last)
        for value, rest in piece_ways(row[0], text)
        for more, last in row_ways(row[1:], rest)
    ]


def piece_ways(piece, text):
    kind = piece[0]
    if kind == "literal":
        return [([], text[len(piece[1]):])] if text.startswith(piece[1]) else []
    if kind == "number" or kind == "word":
        return sign_ways(kind, piece[1], piece[2], text)
    if kind == "alternatives":
        return [([0] + value, rest) for value, rest in row_ways(piece[1], text)] + \
            [([1] + value, rest) for value, rest in row_ways(piece[2], text)]
    if kind == "optional":
        return [([1] + value, rest) for value, rest in row_ways(piece[1], text)] + [([0], text)]
    ways = []
    for times in reversed(range(piece[2], piece[3] + 1)):
        whole = (piece[4] + [lit(piece[1])]) * (times - 1) + piece[4] if times else []
        ways.extend(([times] + value, rest) for value, rest in row_ways(whole, text))
    return ways


def sign_ways(kind, lo, hi, text):
    ways = []
    for length in reversed(range(lo, hi + 1)):
        signs = text[:length]
        if len(signs) < length:
            continue
        if kind == "word" and all("a" <= sign <= "z" for sign in signs):
            ways.append(([length] + [ord(sign) - 97 for sign in signs], text[length:]))
        if kind == "number" and all("0" <= sign <= "9" for sign in signs):
            if lo == hi or str(int(signs)) == signs:
                ways.append(([int(signs)], text[length:]))
    return ways


def plain_print(row, value):
    """The print of a value as a text, or None if it has none."""
    numbers = list(value)
    try:
        text = "".join(piece_print(piece, numbers) for piece in row)
    except (IndexError, AssertionError):
        return None
    return None if numbers else text


def piece_print(piece, numbers):
    """A piece's print; its numbers are taken off the list's beginning."""
    kind = piece[0]
    if kind == "literal":
        return piece[1]
    first = numbers.pop(0)
    if kind == "number":
        digits = str(first).rjust(piece[2], "0") if piece[1] == piece[2] else str(first)
        assert piece[1] <= len(digits) <= piece[2]
        return digits
    if kind == "word":
        assert piece[1] <= first <= piece[2]
        letters = [numbers.pop(0) for turn in range(first)]
        return "".join(LETTERS[letter] for letter in letters)
    if kind == "alternatives" or kind == "optional":
        assert first in (0, 1)
        rows = piece[1:] if kind == "alternatives" else ([], piece[1])
        return "".join(piece_print(inner, numbers) for inner in rows[first])
    assert piece[2] <= first <= piece[3]
    times = ["".join(piece_print(inner, numbers) for inner in piece[4]) for turn in range(first)]
    return piece[1].join(times)


def plain_far(row, text):
    """What far answers: each way is gone by itself, its lengths chosen ahead."""
    done, stuck = row_goes(row, text, 0)
    furthest = max(done + [place for place, wish in stuck])
    wished = sorted({ord(sign) for place, wish in stuck if place == furthest for sign in wish})
    return [furthest, int(furthest in done)] + with_count(wished)


def row_goes(row, text, begin):
    """The places behind a row, and where ways get stuck with what wish."""
    places = [begin]
    stuck = []
    for piece in row:
        gone = [piece_goes(piece, text, place) for place in places]
        places = sorted({place for behind, stops in gone for place in behind})
        stuck += [stop for behind, stops in gone for stop in stops]
    return places, stuck


def piece_goes(piece, text, place):
    kind = piece[0]
    if kind == "literal":
        return wishes_go(piece[1], text, place)
    if kind == "number":
        first = DIGITS if piece[1] == piece[2] else DIGITS[1:]
        plans = [[first] + [DIGITS] * (length - 1) for length in range(piece[1], piece[2] + 1)]
        return both_go([wishes_go(plan, text, place) for plan in plans + [[DIGITS]] * (piece[1] == 1)])
    if kind == "word":
        return both_go([wishes_go([LETTERS] * length, text, place) for length in range(piece[1], piece[2] + 1)])
    if kind == "alternatives":
        return both_go([row_goes(inner, text, place) for inner in piece[1:]])
    if kind == "optional":
        return both_go([row_goes(inner, text, place) for inner in ([], piece[1])])
    separator = [lit(piece[1])] if piece[1] else []
    rows = [(piece[4] + separator) * (times - 1) + piece[4] if times else [] for times in range(piece[2], piece[3] + 1)]
    return both_go([row_goes(inner, text, place) for inner in rows])


def both_go(gone):
    return [place for behind, stops in gone for place in behind], [stop for behind, stops in gone for stop in stops]


def wishes_go(wishes, text, begin):
    for place, wish in enumerate(wishes, begin):
        if place == len(text) or text[place] not in wish:
            return [], [(place, wish)]
    return [begin + len(wishes)], []


def plain_kept(row, most):
    """The kept texts of each length, up to the greatest one."""
    levels = [[""]]
    for turn in range(most):
        longer = []
        for text in levels[-1]:
            place, done, count, *wished = plain_far(row, text)
            longer += [text + chr(byte) for byte in wished if place == len(text)]
        levels.append(longer[:40])
    return levels


def plain_first(levels, counts, fewest):
    """What least and ambiguous answer, by how many scannings each text has."""
    for texts in levels[:6]:
        for text in texts:
            if counts[text] >= fewest:
                return [1] + text_list(text)
    return [0]


def plain_texts(levels, counts, length):
    """What texts answers."""
    if length < 0 or length > 6:
        return [-3]
    many = [counts[text] for text in levels[length]]
    return [len(many), sum(count >= 1 for count in many), sum(count >= 2 for count in many)]
