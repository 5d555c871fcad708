"""A second way to minify, by patterns; it knows fine texts alone."""

import html
import re

BLANK = "[\t\n\r ]"
NAME = "[a-z][a-z0-9-]{0,31}"
REFERENCE = "&(?:amp|lt|gt|quot|apos|#(?:[01]?[0-9]{1,2}|2[0-4][0-9]|25[0-5])|#x[0-9a-fA-F]{1,2});"
VALUE = f"\"(?:[^&\"]|{REFERENCE})*\"|'(?:[^&']|{REFERENCE})*'|(?:[^\t\n\r \"&'<=>`]|{REFERENCE})+"
ATTRIBUTE = f"{BLANK}+({NAME})(?:=({VALUE}))?(?={BLANK}|\\Z)"
ATTRIBUTES = f"((?:{BLANK}+{NAME}(?:=(?:{VALUE}))?(?={BLANK}|/?>))*)"
TOKEN = re.compile(
    f"(?P<comment><!--.*?-->)"
    f"|<(?P<name>{NAME}){ATTRIBUTES}{BLANK}*(?P<slash>/?)>"
    f"|</(?P<close>{NAME})>"
    f"|(?P<text>(?:[^<&]|{REFERENCE})+)", re.DOTALL)
RAW = re.compile("((?:(?!</).)*)</", re.DOTALL)


def content(written):
    """The signs with each reference replaced; latin-1, unlike html.unescape for numbers."""
    def byte(match):
        body = match.group()[1:-1]
        if body.startswith("#x"):
            return chr(int(body[2:], 16))
        if body.startswith("#"):
            return chr(int(body[1:]))
        return html.unescape(match.group())
    return re.sub(REFERENCE, byte, written)


def value_of(written):
    return content(written[1:-1] if written[:1] in ("'", '"') else written)


def short_value(value, tight):
    if not re.search("[\t\n\r \"'<=>`]", value):
        return value.replace("&", "&amp;") + (" " if tight else "")
    value = value.replace("&", "&amp;")
    if value.count('"') > value.count("'"):
        return "'" + value.replace("'", "&#39;") + "'"
    return '"' + value.replace('"', "&#34;") + '"'


def short_tag(name, attributes, ended):
    written = "<" + name
    for index, (key, value) in enumerate(attributes):
        written += " " + key
        if value:
            written += "=" + short_value(value, ended and index == len(attributes) - 1)
    return written + ("/>" if ended else ">")


def tokens_of(text):
    """Pairs of a tag's name, attributes and end, or of what is written as it is; None if a token is not met."""
    found = []
    place = 0
    while place < len(text):
        match = TOKEN.match(text, place)
        if match is None:
            return None
        place = match.end()
        if match["comment"]:
            found.append(("as it is", match.group()))
        elif match["text"]:
            found.append(("as it is", content(match["text"]).replace("&", "&amp;").replace("<", "&lt;")))
        elif match["close"]:
            found.append(("close", match["close"]))
        else:
            pairs = [(key, value_of(value or "")) for key, value in re.findall(ATTRIBUTE, match.group(3))]
            if len(dict(pairs)) < len(pairs):
                return None
            found.append(("open", match["name"], pairs, match["slash"] == "/"))
            if match["name"] in ("calc", "verb") and not match["slash"]:
                raw = RAW.match(text, place)
                if raw is None or not text.startswith(match["name"] + ">", raw.end()):
                    return None
                if raw[1]:
                    found.append(("as it is", raw[1]))
                place = raw.end() - 2
    return found


def plainly_minified(text):
    """The minified text, or None if the text is not fine."""
    found = tokens_of(text)
    if found is None:
        return None
    written = ""
    skipped = False
    for token, behind in zip(found, found[1:] + [None]):
        if skipped:
            skipped = False
        elif token[0] == "as it is":
            written += token[1]
        elif token[0] == "close":
            written += f"</{token[1]}>"
        else:
            skipped = behind == ("close", token[1]) and not token[3]
            written += short_tag(token[1], token[2], token[3] or skipped)
    return written
