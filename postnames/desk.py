"""What the program answers: the calls that the document names."""

from postnames.reading import NotMessage, read_message
from postnames.telling import tell_message

MOST_BYTES = 4096
WRONG = -1
TOO_MUCH = -2


def text(most, message):
    """How many bytes the message's text has, and these; or a refusal alone."""
    if len(message) > MOST_BYTES:
        return [WRONG]
    try:
        told = tell_message(read_message(message))
    except NotMessage:
        return [WRONG]
    if len(told) > most:
        return [TOO_MUCH]
    return [len(told)] + told
