"""Tokens of texts: words, figures and signs, and how a text goes through a syntax token by token."""

from worstwait.errors import BadText


def is_letter(sign):
    """Whether it is a letter from a to z."""
    return "a" <= sign <= "z"


def is_digit(sign):
    """Whether it is a digit."""
    return "0" <= sign <= "9"


def is_run(token):
    """Whether it is a word or figures, which a sign of the same kind behind it would make longer."""
    return is_letter(token[0]) or is_digit(token[0])


def joins(sign, other):
    """Whether two signs side by side are of one token."""
    return (is_letter(sign) and is_letter(other)) or (is_digit(sign) and is_digit(other))


def token_at(text, place):
    """The token that begins at this place."""
    end = place + 1
    while end < len(text) and joins(text[place], text[end]):
        end += 1
    return text[place:end]


def tokens_of(text):
    """The list of all tokens of a text."""
    told = []
    place = 0
    while place < len(text):
        if text[place] == " ":
            place += 1
        else:
            told.append(token_at(text, place))
            place += len(told[-1])
    return told


def go_through(syntax, text):
    """Let a syntax take all tokens of a text but a word or figures at its end.

    The pair of this last token, which may go on, and None; if the text is no
    beginning, of "" and of how many signs are one.
    """
    place = 0
    while place < len(text):
        if text[place] == " ":
            place += 1
            continue
        token = token_at(text, place)
        if is_run(token) and place + len(token) == len(text):
            fitting = syntax.fitting(token)
            return (token, None) if fitting == len(token) else ("", place + fitting)
        if not syntax.fits(token):
            return "", place + syntax.fitting(token)
        syntax.take(token)
        place += len(token)
    return "", None


def need_string(text):
    """Raise the error of what is no string unless it is one."""
    if not isinstance(text, str):
        raise BadText(None)


def need_text(syntax, text):
    """The tokens of a text of this syntax; raise the error that tells its place unless it is one."""
    need_string(text)
    last, wrong = go_through(syntax, text)
    if wrong is not None:
        raise BadText(wrong)
    if last and not syntax.fits(last):
        raise BadText(len(text))
    if last:
        syntax.take(last)
    if not syntax.may_end():
        raise BadText(len(text))
    return tokens_of(text)


def tail_of(syntax, text):
    """The shortest string, of several the least one, that ends a text; None if it is no beginning."""
    need_string(text)
    last, wrong = go_through(syntax, text)
    if wrong is not None:
        return None
    if last:
        return syntax.ended_from(last)
    return syntax.ending("")
