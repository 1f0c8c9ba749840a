"""The calls that only ask: each answers from the captions and changes none."""

from undertexts.answering import NO_SUCH_CAPTION, NONE_LATER, with_length
from undertexts.writing import write_captions


def stands_at(caption, t):
    return caption.start <= t and t < caption.stop


# Both sides are multiplied out, so nothing is lost to a division.
def is_fast(caption, k):
    signs = sum([len(line) for line in caption.lines])
    return 1000 * signs > k * (caption.stop - caption.start)


def how_many_and_which(which):
    return [len(which)] + with_length(which)


def text(captions):
    return [len(captions)] + with_length(write_captions(captions))


def get(captions, i):
    if i >= len(captions):
        return [NO_SUCH_CAPTION]
    caption = captions[i]
    answer = [len(caption.lines)] + with_length([caption.start, caption.stop])
    for line in caption.lines:
        answer.extend(with_length(line))
    return answer


def at(captions, t):
    return how_many_and_which([i for i in range(len(captions)) if stands_at(captions[i], t)])


def fast(captions, k):
    return how_many_and_which([i for i in range(len(captions)) if is_fast(captions[i], k)])


def next_time(captions, t):
    times = [caption.start for caption in captions] + [caption.stop for caption in captions]
    later = [time for time in times if time > t]
    if len(later) == 0:
        return [NONE_LATER]
    return [0] + with_length([min(later)])


def count(captions):
    latest = max([0] + [caption.stop for caption in captions])
    return [len(captions)] + with_length([latest])
