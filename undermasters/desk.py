"""A desk: requests that are put to a Board as lines of a text, and the replies to them."""

from undermasters.board import Board
from undermasters.cuts import alike, is_key, opens_room, rank
from undermasters.errors import BadLine, NoKey, NoNumber, NothingDone, NotQuiet, Twice
from undermasters.most import most_rooms, nth_room, rank_sizes
from undermasters.texts import key_in, key_text, keys_text, number_in

# For each word that a request begins with what stands behind it.
WORDS = {
    "put": ("key",),
    "out": ("key",),
    "change": ("key", "key"),
    "undo": (),
    "own": (),
    "many": (),
    "share": (),
    "more": (),
    "clash": ("key",),
    "sizes": (),
    "most": (),
    "room": ("free", "number"),
    "rank": ("key",),
    "opens": ("key", "key"),
    "alike": ("key", "key"),
}


def is_request(depths, thing):
    """Whether thing is a string of at most 400 signs that is a request."""
    return isinstance(thing, str) and len(thing) <= 400 and request_in(depths, thing) is not None


def request_in(depths, line):
    """The pair of the word of a request and of the list of what stands behind it; None if the line is none."""
    words = line.split(" ")
    word, parts = words[0], words[1:]
    if word not in WORDS or len(parts) != len(WORDS[word]):
        return None
    values = [value_in(depths, kind, part) for kind, part in zip(WORDS[word], parts)]
    return None if None in values else (word, values)


def value_in(depths, kind, text):
    """The KEY or the number that is told by this text; None if it is none of the kind."""
    if kind == "key":
        key = key_in(text)
        return key if is_key(depths, key) else None
    number = number_in(text)
    if kind == "free" and number is not None and number > len(depths):
        return None
    return number


# Each of these gives the reply to one kind of request, or raises what refuses it.


def put_reply(board, key):
    board.put(key)
    return "done"


def out_reply(board, key):
    board.take_out(key)
    return "done"


def change_reply(board, key, fresh):
    board.change(key, fresh)
    return "done"


def undo_reply(board):
    board.undo()
    return "done"


def own_reply(board):
    return keys_text(board.own())


def many_reply(board):
    return str(len(board))


def share_reply(board):
    top, bottom = board.share()
    return f"{top}/{bottom}"


def more_reply(board):
    return str(board.most_more())


def clash_reply(board, key):
    common = board.common()
    return keys_text([one for one in board.own()
                      if one != key and (opens_room(common, one, key) or opens_room(common, key, one))])


def sizes_reply(board):
    return " ".join([str(size) for size in rank_sizes(board.depths(), board.common())])


def most_reply(board):
    return str(most_rooms(board.depths(), board.common()))


def room_reply(board, free, number):
    return key_text(nth_room(board.depths(), board.common(), free, number))


def rank_reply(board, key):
    return str(rank(board.common(), key))


def opens_reply(board, one, other):
    return "yes" if opens_room(board.common(), one, other) else "no"


def alike_reply(board, one, other):
    return "yes" if alike(board.common(), one, other) else "no"


ACTIONS = {
    "put": put_reply,
    "out": out_reply,
    "change": change_reply,
    "undo": undo_reply,
    "own": own_reply,
    "many": many_reply,
    "share": share_reply,
    "more": more_reply,
    "clash": clash_reply,
    "sizes": sizes_reply,
    "most": most_reply,
    "room": room_reply,
    "rank": rank_reply,
    "opens": opens_reply,
    "alike": alike_reply,
}


def reply_to(board, word, values):
    """The reply to the request; one that is refused changes nothing."""
    action = ACTIONS[word]
    try:
        return action(board, *values)
    except NoKey:
        return "refused NoKey"
    except NoNumber:
        return "refused NoNumber"
    except NothingDone:
        return "refused NothingDone"
    except NotQuiet:
        return "refused NotQuiet"
    except Twice:
        return "refused Twice"


def replies(depths, common, text):
    """The list of the replies to the lines of the text; raises BadLine for the first line that is no request."""
    lines = text.split("\n") if text != "" else []
    for number, line in enumerate(lines):
        if not is_request(depths, line):
            raise BadLine(number)
    board, told = Board(depths, common), []
    for line in lines:
        word, values = request_in(depths, line)
        told.append(reply_to(board, word, values))
    return told
