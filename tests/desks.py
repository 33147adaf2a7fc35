"""What tests of desks share: all that a desk tells of itself, and one that is filled."""

from surerwalks.desk import Desk
from surerwalks.errors import NothingToRedo, NothingToUndo

FILL = """walk w 1/2,1/2;1/4,3/4 1/3,2/3|keep r 0,1,0;0,0,1;1,0,0|fresh d 1,1|keep v 0,1;1,0|proposal p 0,1;1,0|guess s 1:1
guess t 1/2:0;1/2:2|function f 0,1|function g 1,2,-3|grid m 1,1;1,2|claim k surer v d|claim b backwards r""".replace("\n", "|").split("|")


def filled():
    """A desk with all sorts of things, two claims and twelve deeds that can be taken back."""
    desk = Desk()
    desk.do_all(*FILL)
    return desk


def repeated(desk, command, error):
    """The answers to the command again and again, until this error comes."""
    answers = []
    while True:
        try:
            answers.append(desk.do(command))
        except error:
            return answers


def picture(desk):
    """All that a desk tells; the desk is as it was."""
    things = [(name, desk[name], desk.do("show " + name)) for name in desk.names]
    claims = [(label, desk.do("claimed " + label), desk.do("state " + label), desk.claim_of(label), desk.fits(label))
              for label in desk.labels]
    other = desk.copy()
    redone = repeated(other, "redo", NothingToRedo)
    undone = repeated(other, "undo", NothingToUndo)
    return things, claims, desk.do("states"), desk.do("names"), desk.lines(), len(desk), redone, undone
