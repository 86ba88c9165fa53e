"""What the tests of several modules say of errors."""


def error_of(call, *arguments, **named):
    """Return the class and the value of the error that a call raises, None if it raises none."""
    try:
        call(*arguments, **named)
    except Exception as wrong:
        return type(wrong), getattr(wrong, "value", wrong)
    return None
