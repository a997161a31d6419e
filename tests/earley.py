"""Points 10 and 11 as a grammar, and the first token that cannot continue, found without the package's parser.

What begins with a capital letter is made by rules; the rest are tokens: "word", "number", or the text of a
keyword or symbol. That the name behind `end` is that of the class is left out here.
"""

GRAMMAR = """
Source:
Source: Source Class
Class: Kind word Heads Equations Initials end word ;
Kind: model
Kind: connector
Heads:
Heads: Heads Head
Head: extends word Mods ;
Head: Prefix word word Size Mods Value ;
Prefix:
Prefix: parameter
Prefix: discrete
Prefix: input
Prefix: flow
Size:
Size: [ E ]
Value:
Value: = E
Mods:
Mods: ( Changes )
Changes: Change
Changes: Changes , Change
Change: word = E
Change: word ( Changes )
Equations:
Equations: equation Statements
Initials:
Initials: initial equation Plains
Statements:
Statements: Statements Statement
Statement: Equal
Statement: connect ( Ref , Ref ) ;
Statement: for word in E : E loop Statements end for ;
Statement: if E then Statements end if ;
Statement: if E then Statements else Statements end if ;
Statement: when E then Acts end when ;
Plains:
Plains: Plains Plain
Plain: Equal
Plain: for word in E : E loop Plains end for ;
Plain: if E then Plains end if ;
Plain: if E then Plains else Plains end if ;
Equal: Or = E ;
Acts:
Acts: Acts Act
Act: Ref = E ;
Act: reset ( Ref , E ) ;
Ref: Part
Ref: Ref . Part
Part: word
Part: word [ E ]
E: if E then E else E
E: Or
Or: And
Or: Or or And
And: Not
And: And and Not
Not: Comparison
Not: not Not
Comparison: Sum
Comparison: Sum Compares Sum
Compares: ==
Compares: <>
Compares: <
Compares: <=
Compares: >
Compares: >=
Sum: Product
Sum: - Product
Sum: Sum + Product
Sum: Sum - Product
Product: Operand
Product: Product * Operand
Product: Product / Operand
Operand: number
Operand: true
Operand: false
Operand: time
Operand: initial ( )
Operand: sample ( E , E )
Operand: der ( Ref )
Operand: pre ( Ref )
Operand: size ( Ref )
Operand: sum ( E )
Operand: { Es }
Operand: Ref
Operand: ( E )
Es: E
Es: Es , E
"""


def read_grammar(text):
    rules = {}
    for line in text.strip().splitlines():
        head, _, body = line.partition(":")
        rules.setdefault(head, []).append(tuple(body.split()))
    return rules


RULES = read_grammar(GRAMMAR)
EMPTY = {head for head, bodies in RULES.items() if () in bodies}


def completed(columns):
    """The last column with all that it predicts and completes; an item is (head, body, dot, origin)."""
    column = columns[-1]
    waiting = list(column)
    while waiting:
        head, body, dot, origin = waiting.pop()
        if dot == len(body):
            new = [(h, b, d + 1, o) for h, b, d, o in columns[origin] if d < len(b) and b[d] == head]
        elif body[dot] in RULES:
            new = [(body[dot], inner, 0, len(columns) - 1) for inner in RULES[body[dot]]]
            if body[dot] in EMPTY:
                new.append((head, body, dot + 1, origin))
        else:
            new = []
        for item in new:
            if item not in column:
                column.add(item)
                waiting.append(item)
    return column


def first_wrong(marks, start):
    """The index of the first mark that cannot continue, their number if more are needed, or None if all is right."""
    columns = [{("Start", (start,), 0, 0)}]
    for at, mark in enumerate(marks):
        column = completed(columns)
        columns.append({(h, b, d + 1, o) for h, b, d, o in column if d < len(b) and b[d] == mark})
        if not columns[-1]:
            return at
    return None if ("Start", (start,), 1, 0) in completed(columns) else len(marks)
