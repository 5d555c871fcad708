"""A second way to take texts apart and write them, by patterns; it knows fine texts alone."""

import html
import re

BLANK = "[\t\n\r ]"
NAME = "[a-z][a-z0-9-]{0,31}"
REFERENCE = "&(?:amp|lt|gt|quot|apos|#(?:[01]?[0-9]{1,2}|2[0-4][0-9]|25[0-5])|#x[0-9a-fA-F]{1,2});"
VALUE = f"\"(?:[^&\"]|{REFERENCE})*\"|'(?:[^&']|{REFERENCE})*'|(?:[^\t\n\r \"&'<=>`]|{REFERENCE})+"
ATTRIBUTE = f"{BLANK}+({NAME})(?:=({VALUE}))?(?={BLANK}|\\Z)"
ATTRIBUTES = f"((?:{BLANK}+{NAME}(?:=(?:{VALUE}))?(?={BLANK}|/?>))*)"
TOKEN = re.compile(
    f"<!--(?P<comment>.*?)-->"
    f"|<(?P<name>{NAME}){ATTRIBUTES}{BLANK}*(?P<slash>/?)>"
    f"|</(?P<close>{NAME})>"
    f"|(?P<text>(?:[^<&]|{REFERENCE})+)", re.DOTALL)
RAW = re.compile("((?:(?!</).)*)</", re.DOTALL)


def content(written):
    """The signs with each reference replaced; latin-1, unlike html.unescape for numbers."""
    def byte(match):
        body = match.group()[1:-1]
        if body.startswith("#x"):
            return chr(int(body[2:], 16))
        if body.startswith("#"):
            return chr(int(body[1:]))
        return html.unescape(match.group())
    return re.sub(REFERENCE, byte, written)


def value_of(written):
    return content(written[1:-1] if written[:1] in ("'", '"') else written)


def short_value(value, tight):
    if not re.search("[\t\n\r \"'<=>`]", value):
        return value.replace("&", "&amp;") + (" " if tight else "")
    value = value.replace("&", "&amp;")
    if value.count('"') > value.count("'"):
        return "'" + value.replace("'", "&#39;") + "'"
    return '"' + value.replace('"', "&#34;") + '"'


def short_tag(name, attributes, ended):
    written = "<" + name
    for index, (key, value) in enumerate(attributes):
        written += " " + key
        if value:
            written += "=" + short_value(value, ended and index == len(attributes) - 1)
    return written + ("/>" if ended else ">")


def full_tag(name, attributes, ended, gap):
    written = "<" + name
    for key, value in attributes:
        written += gap + key + '="' + value.replace("&", "&amp;").replace('"', "&quot;") + '"'
    return written + ("/>" if ended else ">")


def laid_tag(name, attributes, ended, width):
    written = full_tag(name, attributes, ended, " ")
    return full_tag(name, attributes, ended, "\n") if len(written) > width else written


def tokens_of(text):
    """Each token's kind and what it holds; None if a token is not met."""
    found = []
    place = 0
    while place < len(text):
        match = TOKEN.match(text, place)
        if match is None:
            return None
        place = match.end()
        if match["comment"] is not None:
            found.append((3, match["comment"]))
        elif match["text"]:
            found.append((0, content(match["text"])))
        elif match["close"]:
            found.append((2, match["close"]))
        else:
            pairs = [(key, value_of(value or "")) for key, value in re.findall(ATTRIBUTE, match.group(3))]
            if len(dict(pairs)) < len(pairs):
                return None
            found.append((1, match["name"], pairs, match["slash"] == "/"))
            if match["name"] in ("calc", "verb") and not match["slash"]:
                raw = RAW.match(text, place)
                if raw is None or not text.startswith(match["name"] + ">", raw.end()):
                    return None
                if raw[1]:
                    found.append((4, raw[1]))
                place = raw.end() - 2
    return found


def joined(found):
    """The normal tokens."""
    normal = []
    for token in found:
        before = normal[-1] if normal else (None,)
        if token[0] == 2 and before[0] == 1 and before[1] == token[1] and not before[3]:
            normal[-1] = before[:3] + (True,)
        else:
            normal.append(token)
    return normal


def written(token, write_tag):
    kind, inner = token[:2]
    if kind == 1:
        return write_tag(*token[1:])
    return {0: inner.replace("&", "&amp;").replace("<", "&lt;"), 2: f"</{inner}>", 3: f"<!--{inner}-->", 4: inner}[kind]


def plainly_minified(text):
    """The minified text, or None if the text is not fine."""
    found = tokens_of(text)
    if found is None:
        return None
    return "".join(written(token, short_tag) for token in joined(found))


def plainly_laid(text, width):
    """The text laid out, or None if it is not fine."""
    found = tokens_of(text)
    if found is None:
        return None
    return "".join(written(token, lambda *tag: laid_tag(*tag, width)) for token in found)


def normal_tokens_of(text):
    """The normal tokens, or None if the text is not fine."""
    found = tokens_of(text)
    return None if found is None else joined(found)
