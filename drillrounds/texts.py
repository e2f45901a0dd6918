"""Texts as lists of bytes: parted into lines and words, and made of lines."""

# No right word needs other signs than these, so all others may look the same.
KNOWN_SIGNS = "\n #-0123456789abcdefghijklmnopqrstuvwxyz"
OTHER_SIGN = "?"
WRONG_SIGN = "!"

LEAST_WORD_BYTE = 33
GREATEST_WORD_BYTE = 126
BYTE_COUNT = 256

COMMENT = "#"
MOST_DIGITS = 10


def sign_table():
    """The sign that stands for each byte; WRONG_SIGN stands for wrong bytes alone."""
    signs = []
    for byte in range(BYTE_COUNT):
        signs.append(OTHER_SIGN if LEAST_WORD_BYTE <= byte <= GREATEST_WORD_BYTE else WRONG_SIGN)
    for sign in KNOWN_SIGNS:
        signs[ord(sign)] = sign
    return signs


def lines_of(text):
    signs = sign_table()
    lines = "".join([signs[byte] for byte in text]).split("\n")
    # Behind the last line feed there is a line only if something stands there.
    if lines[-1] == "":
        lines.pop()
    return lines


def has_wrong_byte(line):
    return WRONG_SIGN in line


def words_of(line):
    return [word for word in line.split(" ") if word != ""]


def is_passed_over(words):
    return not words or words[0].startswith(COMMENT)


def is_number(word):
    if word == "0":
        return True
    digits = word[1:] if word.startswith("-") else word
    return digits.isdigit() and len(digits) <= MOST_DIGITS and not digits.startswith("0")


def bytes_of(lines):
    """Each line, and a line feed behind it."""
    text = []
    for line in lines:
        text.extend([ord(sign) for sign in line])
        text.append(ord("\n"))
    return text
