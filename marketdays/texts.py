"""Texts: what diaries and lots of days look like as text."""


def show_diary(diary):
    """Return the text of a diary."""
    towns = ", ".join([f"{name} {low}..{high}" for name, low, high in diary.towns])
    return "; ".join([towns] + [show_note(note) for note in diary.notes])


def show_lot(one):
    """Return the text of a lot of days."""
    every, rests = one
    if not rests:
        return f"- by {every}"
    shown = ",".join([str(rest) for rest in rests])
    return f"{shown} by {every}"


def show_note(note):
    """Return the text of a note."""
    return " ".join([str(thing) for thing in note])
