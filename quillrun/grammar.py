"""The grammar of definitions, as a table from which the next word alone chooses.

For each symbol in angle brackets the table has its choices: the words that choose it (none
for the choice that is left if no other one is chosen), and what the symbol stands for then.
That is a row of words that are separated by spaces:
- NAME, MAKER, NUMBER and TEXT: such a token, whose value is kept,
- TAKE: the word that has chosen, whose value is kept,
- a word with an exclamation mark: a step that builds a tree of what was kept (quillrun.builder),
- any other word: this keyword or sign.
"""

GRAMMAR = {
    "<definition>": (
        ("data", "data NAME = !none <maker> <makers> !data"),
        ("fun", "fun NAME ( !none <names> ) = <expression> !fun"),
        ("cell", "cell NAME : <kind> = <expression> <turn> !cell"),
        ("view", "view NAME = <expression> !view"),
        ("act", "act NAME ( !none <names> ) = !none <settings> then <expression> !act"),
    ),
    "<maker>": (("", "MAKER !none <fields> !pair !item"),),
    "<makers>": (("|", "| <maker> <makers>"), ("", "")),
    "<fields>": (("(", "( <kinds> )"), ("", "")),
    "<kinds>": ((")", ""), ("", "<kind> !item <more-kinds>")),
    "<more-kinds>": ((",", ", <kind> !item <more-kinds>"), ("", "")),
    "<kind>": (("list", "list <kind> !level"), ("num text bool NAME", "TAKE !kind")),
    "<names>": (("NAME", "NAME !item <more-names>"), ("", "")),
    "<more-names>": ((",", ", NAME !item <more-names>"), ("", "")),
    "<turn>": (("turn", "turn NAME"), ("", "!nothing")),
    "<settings>": (("NAME", "<setting> <more-settings>"), ("", "")),
    "<setting>": (("", "NAME := <expression> !pair !item"),),
    "<more-settings>": ((",", ", <setting> <more-settings>"), ("", "")),
    "<expression>": (
        ("if", "if <expression> then <expression> else <expression> !if"),
        ("let", "let NAME = <expression> in <expression> !let"),
        ("", "<or>"),
    ),
    "<or>": (("", "<and> <more-or>"),),
    "<more-or>": (("or", "TAKE <and> !binary <more-or>"), ("", "")),
    "<and>": (("", "<not> <more-and>"),),
    "<more-and>": (("and", "TAKE <not> !binary <more-and>"), ("", "")),
    "<not>": (("not", "not <not> !not"), ("", "<cons> <comparison>")),
    "<comparison>": (("= <", "TAKE <cons> !binary"), ("", "")),
    "<cons>": (("", "<sum> <tail>"),),
    "<tail>": (("::", ":: <cons> !cons"), ("", "")),
    "<sum>": (("", "<product> <more-sum>"),),
    "<more-sum>": (("+ - ++", "TAKE <product> !binary <more-sum>"), ("", "")),
    "<product>": (("", "<primary> <more-product>"),),
    "<more-product>": (("* / mod", "TAKE <primary> !binary <more-product>"), ("", "")),
    "<primary>": (
        ("NUMBER", "NUMBER !number"),
        ("TEXT", "TEXT !text"),
        ("true", "true !true"),
        ("false", "false !false"),
        ("NAME", "NAME <call>"),
        ("MAKER", "MAKER !none <make> !make"),
        ("[", "[ !none <items> ] !list"),
        ("(", "( <expression> )"),
        ("case", "case <expression> of <choice> end"),
    ),
    "<call>": (("(", "( !none <items> ) !call"), ("", "!name")),
    "<make>": (("(", "( <items> )"), ("", "")),
    "<items>": ((") ]", ""), ("", "<expression> !item <more-items>")),
    "<more-items>": ((",", ", <expression> !item <more-items>"), ("", "")),
    "<choice>": (
        ("[", "[ ] -> <expression> ; NAME :: NAME -> <expression> !split"),
        ("", "!none <arm> <more-arms> !match"),
    ),
    "<arm>": (("", "MAKER !none <arm-names> -> <expression> !triple !item"),),
    "<more-arms>": ((";", "; <arm> <more-arms>"), ("", "")),
    "<arm-names>": (("(", "( <names> )"), ("", "")),
}


def production(symbol, word):
    """Returns the list of words that a symbol stands for before this next word, or None if there are none."""
    for words, row in GRAMMAR[symbol]:
        if words == "" or word in words.split(" "):
            return row.split()
    return None
