"""What the tests share: texts as bytes, positions put together, lists that refuse to be changed."""

from komadai.board import sg_set, sg_text

OPENING = "lnsgkgsnl/1r5b1/ppppppppp/9/9/9/PPPPPPPPP/1B5R1/LNSGKGSNL b - 1"

# Positions of played games and made up ones, each as it is told.
ORDINARY = (
    OPENING,
    "lnsgkgsnl/1r5b1/ppppppppp/9/9/2P6/PP1PPPPPP/1B5R1/LNSGKGSNL w - 2",
    "lnsgkgsnl/1r5+B1/pppppp1pp/6p2/9/2P6/PP1PPPPPP/7R1/LNSGKGSNL w B 4",
    "8l/1l+R2P3/p2pBG1pp/kps1p4/Nn1P2G2/P1P1P2PP/1PS6/1KSG3+r1/LN2+p3L w Sbgn3p 124",
    "l6nl/5+P1gk/2np1S3/p1p4Pp/3P2Sp1/1PPb2P1P/P5GS1/R8/LN4bKL w RGgsn5p 1",
    "R8/2K1S1SSk/4B4/9/9/9/9/9/1L1L1L3 b RBGSNLP3g3n17p 1",
    "4k4/9/9/9/9/9/9/9/4K4 b 2R2B4G4S4N4L18P 1",
    "4k4/9/9/9/9/9/9/9/4K4 w 2r2b4g4s4n4l18p 65534",
    "4k4/9/9/9/9/9/9/9/4K4 b RB2G2S2N2L9Prb2g2s2n2l9p 77",
    "k8/9/+P+L+N+S1+B+R2/9/9/9/+p+l+n+s1+b+r2/9/8K b - 9",
    "k8/9/+P+L+N+S1+B+R2/9/9/9/+p+l+n+s1+b+r2/9/8K w - 10",
)


def codes(text):
    return [ord(sign) for sign in text]


def answer_to(text):
    return sg_set(codes(text))


# The text that sg_text tells, or the refusal.
def text_from(position):
    answer = sg_text(position)
    if answer[0] < 0:
        return answer
    assert answer[0] == len(answer) - 1
    return "".join(chr(code) for code in answer[1:])


# board: square to piece; hands: place (0 to 13) to how many.
def put_together(board, hands=None, turn=0, number=1):
    position = [0] * 97
    for square, piece in board.items():
        position[square] = piece
    for place, amount in (hands or {}).items():
        position[81 + place] = amount
    position[95] = turn
    position[96] = number
    return position


class Unchangeable(list):
    """A list that fails the test as soon as it is changed, be it for a while only."""

    def refuse(self, *args, **kwargs):
        raise AssertionError("what was handed in is changed")

    __setitem__ = refuse
    __delitem__ = refuse
    __iadd__ = refuse
    __imul__ = refuse
    append = refuse
    clear = refuse
    extend = refuse
    insert = refuse
    pop = refuse
    remove = refuse
    reverse = refuse
    sort = refuse
