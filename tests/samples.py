"""Programs that tests have in common."""
from lookalike.orders import order_of

ORDER = order_of(2, [(0, 1)])
SMALL = (ORDER, (("b", (0,), 8, 3),), (), (), (
    ("t", (("a", None, 4),), (
        ("take", "a", 1),
        ("if", ("name", "a"), (("set", "a", ("op", "add", ("name", "a"), ("word", 4, 1))),), ()),
        ("out", 1, ("name", "a")),
    )),
))
SMALL_TOKENS = ("levels 2 within 0 { 0 } within 1 { 0 1 } box b : 8 [ 0 ] = 3 thread t { local a : 4 ? take a 1 ; "
                "if a { a = ( a add 1 : 4 ) ; } out 1 a ; }")

# One of each kind of statement and expression.
DOUBLE = ("f", (("a", None, 4), ("c", (), 1)), (("d", (1,), 4),), (
    ("set", "d", ("op", "add", ("name", "a"), ("name", "a"))),
    ("times", 2, (("set", "d", ("op", "shr", ("name", "d"), ("word", 4, 1))),)),
), ("op", "mul", ("name", "d"), ("at", "r", ("name", "c"))))
TWICE = ("g", (), (), (), ("call", "f", (("call", "f", (("word", 4, 1), ("word", 1, 0))), ("word", 1, 1))))
FIRST = ("t", (("a", None, 4), ("f", (0, 1), 1)), (
    ("take", "b", 0),
    ("set", "f", ("op", "lt", ("name", "b"), ("word", 8, 255))),
    ("put", "r", ("name", "b"), ("call", "g", ())),
    ("if", ("name", "f"), (("skip", 0),), (("skip", 3), ("out", 1, ("at", "r", ("word", 2, 3))))),
    ("if", ("word", 1, 1), (), ()),
    ("while", ("op", "eq", ("at", "r", ("name", "b")), ("name", "a")), (("set", "a", ("word", 4, 15)),)),
    ("times", 64, ()),
    ("out", 0, ("call", "f", (("name", "a"), ("name", "f")))),
))
SECOND = ("u", (), ())
FULL = (ORDER, (("b", (), 8, 255), ("c2", None, 1, 0)), (("r", (1,), 4, 64), ("q", None, 32, 1)), (DOUBLE, TWICE),
        (FIRST, SECOND))
FULL_TEXT = """levels 2 within 0 { 0 } within 1 { 0 1 }
box b : 8 [ ] = 255
box c2 : 1 ? = 0
row r : 4 [ 1 ] * 64
row q : 32 ? * 1
function f ( a : 4 ? , c : 1 [ ] ) {  # twice, then halved
    local d : 4 [ 1 ]
    d = ( a add a ) ;
    times 2 { d = ( d shr 1 : 4 ) ; }
} -> ( d mul r [ c ] )
function g ( ) { } -> f ( f ( 1 : 4 , 0 : 1 ) , 1 : 1 )
thread t {
    local a : 4 ?
    local f : 1 [ 0 1 ]
    take b 0 ;
    f = ( b lt 255 : 8 ) ;
    r [ b ] = g ( ) ;
    if f { skip 0 ; } else { skip 3 ; out 1 r [ 3 : 2 ] ; }
    if 1 : 1 { }
    while ( r [ b ] eq a ) { a = 15 : 4 ; }
    times 64 { }
    out 0 f ( a , f ) ;
}
thread u { }"""


def with_block(*block):
    """A program with one thread t with these statements, some boxes, rows, functions and locals."""
    thread = ("t", (("a", None, 4), ("b", None, 1)), tuple(block))
    function = ("f", (("x", None, 4), ("y", None, 1)), (), (), ("name", "x"))
    return (ORDER, (("c", None, 8, 0),), (("r", None, 4, 3),), (function,), (thread,))


def with_expression(expression):
    """The same with one expression."""
    return with_block(("out", 0, expression))
