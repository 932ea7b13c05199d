"""Charts, kept as lists of rows of colour bytes, and their texts."""

ROW_END = 10
# The colour a, which is numbered 0.
FIRST_COLOUR = 97
MOST_SIDE = 512
MOST_KNOTS = 65536
# The longest text of a right chart: 512 rows of 128 knots, each with its end.
MOST_BYTES = 66048


def is_too_long(text):
    """Whether no right chart has so many bytes."""
    return len(text) > MOST_BYTES


def is_colour(byte):
    """Whether the byte is one of a to z, A to Z, 0 to 9."""
    return 97 <= byte <= 122 or 65 <= byte <= 90 or 48 <= byte <= 57


def is_side(number):
    """Whether a chart may be so wide or so high."""
    return 1 <= number <= MOST_SIDE


def is_chart_size(width, height):
    """Whether a chart may be of this width and height."""
    return is_side(width) and is_side(height) and width * height <= MOST_KNOTS


def is_chart(rows):
    """Whether the rows, each of colours alone, make a right chart."""
    if not rows:
        return False
    width = len(rows[0])
    for row in rows:
        if len(row) != width:
            return False
    return is_chart_size(width, len(rows))


def chart_of(text):
    """The chart that the text tells, or None if it tells no right one."""
    rows = []
    row = []
    for byte in text:
        if byte == ROW_END:
            rows.append(row)
            row = []
        elif is_colour(byte):
            row.append(byte)
        else:
            return None
    # Colours left over are a row without its end.
    if row or not is_chart(rows):
        return None
    return rows


def text_of(chart):
    """The text of a chart."""
    text = []
    for row in chart:
        text.extend(row)
        text.append(ROW_END)
    return text
