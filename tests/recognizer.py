"""An Earley recognizer for the grammar of points [19] and [20], written independently of the parser.

It tells the first word of a chunk that cannot continue a definition, without any limits.
"""

RULES = """
definition: data NAME = makers | fun NAME ( names ) = e1 | cell NAME : kind = e1
definition: cell NAME : kind = e1 turn NAME | view NAME = e1
definition: act NAME ( names ) = then e1 | act NAME ( names ) = settings then e1
makers: maker | makers BAR maker
maker: MAKER | MAKER ( ) | MAKER ( kinds )
kinds: kind | kinds , kind
kind: num | text | bool | NAME | list kind
names: | some-names
some-names: NAME | some-names , NAME
settings: setting | settings , setting
setting: NAME := e1
e1: if e1 then e1 else e1 | let NAME = e1 in e1 | e2
e2: e2 or e3 | e3
e3: e3 and e4 | e4
e4: not e4 | e5
e5: e6 = e6 | e6 < e6 | e6
e6: e7 :: e6 | e7
e7: e7 + e8 | e7 - e8 | e7 ++ e8 | e8
e8: e8 * e9 | e8 / e9 | e8 mod e9 | e9
e9: NUMBER | TEXT | true | false | NAME | NAME ( es ) | MAKER | MAKER ( es ) | [ es ] | ( e1 )
e9: case e1 of [ ] -> e1 ; NAME :: NAME -> e1 end | case e1 of arms end
es: | some-es
some-es: e1 | some-es , e1
arms: arm | arms ; arm
arm: MAKER -> e1 | MAKER ( names ) -> e1
"""


def read_rules():
    rules = {}
    for line in RULES.strip().split("\n"):
        head, _, choices = line.partition(":")
        for choice in choices.split(" | "):
            row = tuple("|" if word == "BAR" else word for word in choice.split())
            rules.setdefault(head, []).append(row)
    return rules


GRAMMAR = read_rules()


def closed(states, index):
    """Predicts and completes; an empty row is completed at once by the second pass of the outer loop."""
    current = dict.fromkeys(states[index])
    size = -1
    while size != len(current):
        size = len(current)
        for head, row, dot, start in list(current):
            if dot == len(row):
                origins = current if start == index else states[start]
                for outer in list(origins):
                    if outer[2] < len(outer[1]) and outer[1][outer[2]] == head:
                        current[(outer[0], outer[1], outer[2] + 1, outer[3])] = None
            elif row[dot] in GRAMMAR:
                for choice in GRAMMAR[row[dot]]:
                    current[(row[dot], choice, 0, index)] = None
    return list(current)


def first_refused(words):
    """The index of the first word that cannot continue, len(words) if they are incomplete, otherwise None."""
    states = [[("start", ("definition",), 0, 0)]]
    states[0] = closed(states, 0)
    for index, word in enumerate(words):
        following = [(head, row, dot + 1, start) for head, row, dot, start in states[index]
                     if dot < len(row) and row[dot] == word]
        if not following:
            return index
        states.append(following)
        states[index + 1] = closed(states, index + 1)
    complete = ("start", ("definition",), 1, 0) in states[-1]
    return None if complete else len(words)
