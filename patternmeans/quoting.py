"""A pattern that fits just one subject."""

from patternmeans.reading import NOT_PLAIN, among, is_printed

HEX_DIGITS = "0123456789abcdef"


def quoted(subject):
    """The bytes of a pattern that fits just the subject."""
    pattern = []
    for byte in subject:
        pattern.extend(quoted_byte(byte))
    return pattern


def quoted_byte(byte):
    """The bytes that tell the byte in a pattern."""
    if byte == ord("\n"):
        return bytes_of("\\n")
    if byte == ord("\t"):
        return bytes_of("\\t")
    if not is_printed(byte):
        return bytes_of("\\x" + HEX_DIGITS[byte // 16] + HEX_DIGITS[byte % 16])
    if among(byte, NOT_PLAIN):
        return [ord("\\"), byte]
    return [byte]


def bytes_of(signs):
    """The bytes that the signs are."""
    return [ord(sign) for sign in signs]
