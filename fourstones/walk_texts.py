"""Parts of scripts by which a mouse goes through the row of a floor, and judges crowns on its way.

Three stones are needed. JUDGED lies in the cell of the south wall that is judged; NUMBER is a number; MARK marks the
wall at which the mouse stands while it changes the number.

How deep a wall of a rim lies below the judged one is held by both the number and the flag `depth`. The flag is one
more than the rest: 1 to 8 for a rest of 0 to 7. At 9 six are carried over to the number, and 3 is left; at 0 six are
taken back from it, which makes 6. So the number is changed seldom, and not to and fro where a rim goes up and down.
NUMBER lies as many walls on from the judged one as sixes are carried, and is in the paws if none is.

The flag `turns` is right turns less left ones modulo 8, from a nose to the west on; so it also tells the nose: 0 and 4
west, 1 and 5 north, 2 and 6 east, 3 and 7 south. All walls of a pillar's rim lie below its crown, but south walls as
high as it: to these and to itself the turns are -4, which is 4 modulo 8. So a wall that is as high as the judged one
and has other turns shows that this is no crown, and none that is higher is ever come to. As to the outer rim, one comes
back to the judged wall on it only by way of walls that are as high or higher and look elsewhere.
"""

# With a wall at its left the mouse goes on; with one at its right it goes back, its nose pointing to where it goes.
# `seek` begins at a wall, marks it, turns about, and goes back to the number, which it takes up; `return` goes on from
# there to the mark again. `on` and `back` leave the flags as they are, while `along` goes on and changes them.
JUDGE = """
part on { if wall ahead { right } else { go if not wall left { left go } } }
part back { if wall ahead { left } else { go if not wall right { right go } } }
part seek {
    lay MARK left about
    while not ( here NUMBER right or ( held NUMBER and ( here JUDGED right or here JUDGED middle ) ) ) { do back }
    if not held NUMBER { take NUMBER }
}
part return { while not here MARK left { do on } take MARK }
part carry { do seek about do on lay NUMBER left do return }
part borrow {
    do seek do back
    if not ( here JUDGED right or here JUDGED middle ) { lay NUMBER right }
    about do return
}
part ahead1 { go if ( turns = 3 or turns = 7 ) { up depth 10 } if ( turns = 1 or turns = 5 ) { SHALLOWER } }
part along { if wall ahead { right up turns 8 } else { do ahead1 if not wall left { left LEFTWARDS do ahead1 } } }
part judge {
    set turns 0 set depth 1 do along
    while not ( depth = 1 and
            ( held NUMBER and ( not turns = 4 or ( here JUDGED left or here JUDGED middle ) ) ) ) {
        if depth = 9 { do carry set depth 3 }
        if depth = 0 { do borrow set depth 6 }
        do along
    }
    if not turns = 4 {
        set turns 0 about
        while not ( here JUDGED right or here JUDGED middle ) { do back }
        while not north { right } left
    }
}
"""
# One cell on in the row: the nose points south before and afterwards. Come down a run, the mouse stands at the other
# end of its north wall's thread if its south wall is a crown; otherwise it has to go up to the north wall. At the south
# walls by which it comes on the ring it is the other way round. Where JUDGED lies tells in which case it is, so that no
# flag has to: in the middle of the cell behind a run, at the wall on the ring.
NEXT = """
part next {
    if wall ahead {
        right lay JUDGED middle set turns 0
        while ( turns = 0 or turns = 4 ) {
            do judge
            if here JUDGED middle { if turns = 4 { set turns 0 } else { set turns 4 } }
            else { if turns = 4 { AT-CROWN } }
            take JUDGED
            if turns = 4 { right while not wall ahead { go } right set turns 2 } else { set turns 0 }
            do along
            while not ( ( turns = 0 or turns = 4 ) or ( turns = 2 or turns = 6 ) ) { set depth 1 do along }
            if ( turns = 0 or turns = 4 ) { lay JUDGED left }
        }
        right set turns 0 set depth 0
    } else { go }
}
"""
# Turns the nose to the south, wherever it points.
TO_SOUTH = "while not north { right } about"


def text_with(template, stone):
    """The parts of a template, with three stones from this one on, as one text."""
    text = template.replace("JUDGED", str(stone)).replace("NUMBER", str(stone + 1)).replace("MARK", str(stone + 2))
    # One less is as many times one more as bring the flag round.
    text = text.replace("SHALLOWER", "up depth 10 " * 9).replace("LEFTWARDS", "up turns 8 " * 7)
    return " ".join(text.split())


def judge_text(stone):
    """The part `judge`, and those that it needs.

    It begins at a south wall, the nose to the west, the stone JUDGED at this wall or in the middle of the cell; so it
    ends, `turns` being 4 if the wall is a crown, and something else otherwise.
    """
    return text_with(JUDGE, stone)


def next_text(stone, deeds):
    """The part `next`, and those that it needs; the deeds are done at each crown by which one comes on the ring."""
    return text_with(JUDGE + NEXT.replace("AT-CROWN", deeds), stone)
