"""The text of captions, as bytes."""

from undertexts.form import COLON, DASH, LINE_END, POINT, ZERO


def digits(number, width):
    written = []
    rest = number
    for k in range(width):
        written.append(ZERO + rest % 10)
        rest = rest // 10
    return list(reversed(written))


def write_time(time):
    seconds = time // 1000
    minutes = seconds // 60
    written = digits(minutes // 60, 2)
    written.append(COLON)
    written.extend(digits(minutes % 60, 2))
    written.append(COLON)
    written.extend(digits(seconds % 60, 2))
    written.append(POINT)
    written.extend(digits(time % 1000, 3))
    return written


def write_caption(caption):
    written = write_time(caption.start)
    written.append(DASH)
    written.extend(write_time(caption.stop))
    written.append(LINE_END)
    for line in caption.lines:
        written.extend(line)
        written.append(LINE_END)
    written.append(LINE_END)
    return written


def write_captions(captions):
    written = []
    for caption in captions:
        written.extend(write_caption(caption))
    return written
