"""Desks: an inn that is led by lines, each with its answer."""

from stayhouse.errors import BadHouse, BadLine, BadText, Barred, NoGuest, NoWish, Refused
from stayhouse.inn import Inn, inn_again
from stayhouse.judge import judge
from stayhouse.lines import amounts_text
from stayhouse.stays import Stay, days_at
from stayhouse.words import end_at, name_at


def list_text(names, between):
    """Names, or other texts, with something between; `-` without any."""
    return between.join(names) if names else "-"


def given_text(given):
    """What a guest gets, or gives back."""
    parts = (given.site, given.locker, given.gate, given.line)
    return " ".join(["-" if part is None else str(part) for part in parts])


def check_wish(inn, wish):
    """Raises unless a name is that of a wish of the plan."""
    if wish not in inn.house_now().plan:
        raise NoWish(wish)


def sell_told(inn, told):
    """The answer to `sell`."""
    guest, wish, stay = told
    inn.sell(guest, wish, stay)
    return "ok"


def cancel_told(inn, told):
    """The answer to `cancel`."""
    inn.cancel(told[0])
    return "ok"


def come_told(inn, told):
    """The answer to `come`."""
    return given_text(inn.come(told[0]))


def go_told(inn, told):
    """The answer to `go`."""
    return given_text(inn.go(told[0]))


def dawn_told(inn, told):
    """The answer to `dawn`."""
    return list_text(inn.dawn(), " ")


def undo_told(inn, told):
    """The answer to `undo`."""
    return inn.undo() if inn.deeds > 0 else "nothing"


def today_told(inn, told):
    """The answer to `today`."""
    return str(inn.today)


def due_told(inn, told):
    """The answer to `due`."""
    return list_text(inn.due, " ")


def there_told(inn, told):
    """The answer to `there`."""
    return list_text(inn.present, " ")


def why_told(inn, told):
    """The answer to `why`."""
    wish, stay = told
    check_wish(inn, wish)
    paper = inn.door_now().why(wish, stay)
    return "open" if paper else f"closed {paper.word}"


def offers_told(inn, told):
    """The answer to `offers`."""
    wish = told[0]
    check_wish(inn, wish)
    door = inn.door_now()
    stays = [str(stay) for stay in door.offers(wish)]
    return list_text(stays, " , ")


def bays_told(inn, told):
    """The answer to `bays`."""
    return str(inn.house_now().free_bays)


def carts_told(inn, told):
    """The answer to `carts`."""
    return str(inn.house_now().carts_now)


def now_told(inn, told):
    """The answer to `now`."""
    return str(inn.house_now().now)


def year_told(inn, told):
    """The answer to `year`."""
    return str(inn.house_now().so_far)


def left_told(inn, told):
    """The answer to `left`."""
    return amounts_text(inn.house_now().left)


def row_told(inn, told):
    """The answer to `row`."""
    return str(inn.row_now())


def calendar_told(inn, told):
    """The answer to `calendar`."""
    return str(inn.calendar_now())


def judge_told(inn, told):
    """The answer to `judge`."""
    house = inn.house_now()
    paper = judge(house.plan, house.stock)
    if paper:
        return "safe"
    return f"unsafe {paper.part} : " + " ".join([str(event) for event in paper.row])


# What stands behind each first word of a line, and the function that answers the line.
FORMS = {
    "sell": ("guest", "wish", "stay"),
    "cancel": ("guest",),
    "come": ("guest",),
    "go": ("guest",),
    "dawn": (),
    "undo": (),
    "today": (),
    "due": (),
    "there": (),
    "why": ("wish", "stay"),
    "offers": ("wish",),
    "bays": (),
    "carts": (),
    "now": (),
    "year": (),
    "left": (),
    "row": (),
    "calendar": (),
    "judge": (),
}
ANSWERS = {
    "sell": sell_told,
    "cancel": cancel_told,
    "come": come_told,
    "go": go_told,
    "dawn": dawn_told,
    "undo": undo_told,
    "today": today_told,
    "due": due_told,
    "there": there_told,
    "why": why_told,
    "offers": offers_told,
    "bays": bays_told,
    "carts": carts_told,
    "now": now_told,
    "year": year_told,
    "left": left_told,
    "row": row_told,
    "calendar": calendar_told,
    "judge": judge_told,
}


class Desk:
    """A desk with an inn of its own; it changes."""

    def __init__(self, inn):
        if not isinstance(inn, Inn):
            raise BadHouse("inn")
        self.inn = inn.twin()

    def say(self, line):
        """Carries out a line; returns its answer."""
        return answer_to(self.inn, line)

    def __call__(self, line):
        return self.say(line)

    def run(self, *lines):
        """The list of the answers to lines; none of them is carried out if one raises an error."""
        inn = inn_again(self.inn)
        answers = []
        for line in lines:
            answers.append(answer_to(inn, line))
        self.inn = inn
        return answers

    def inn_now(self):
        """A twin of the inn."""
        return self.inn.twin()


def words_told(line):
    """The words of a line, the first one being known."""
    words = line.split(" ") if isinstance(line, str) else [""]
    if words[0] not in FORMS:
        raise BadLine(0)
    return words


def things_told(words):
    """The list of the names, and the Stay, that stand behind the first word of a line."""
    told = []
    at = 1
    for kind in FORMS[words[0]]:
        if kind == "stay":
            first, after = days_at(words, at)
            if after <= first:
                raise BadText(0, at + 2)
            told.append(Stay(first, after))
            at += 3
        else:
            told.append(name_at(words, at))
            at += 1
    end_at(words, at)
    return told


def answer_to(inn, line):
    """The answer of an inn to a line, any value."""
    words = words_told(line)
    try:
        told = things_told(words)
    except BadText as wrong:
        raise BadLine(wrong.word) from None
    answer = ANSWERS[words[0]]
    try:
        return answer(inn, told)
    except (NoGuest, NoWish) as lack:
        return f"no {lack.name}"
    except Barred as bar:
        return f"barred {bar.word}"
    except Refused as refusal:
        return f"refused {refusal.part}"
