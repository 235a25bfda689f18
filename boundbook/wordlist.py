"""Word lists: on which pages of a job, and on which leaves, its words stand (point 49)."""

from boundbook.drawing import read_drawing


def words_on(drawing):
    """Return the ascending list of the words that stand in the boxes of a drawing, each once."""
    return sorted({word for box in read_drawing(drawing) for word in box[4].split(" ") if word})


def word_list(job):
    """Return the list of the words, ascending, each with the numbers of the pages on which it stands."""
    numbers = {}
    for number, page in enumerate(job.pages(), start=1):
        for word in words_on(page[2]):
            numbers.setdefault(word, []).append(number)
    return [(word, numbers[word]) for word in sorted(numbers)]


def leaves_with(job, word):
    """Return the list of the leaves of a copy on which a word stands, with the side and the page."""
    drawings = [page[2] for page in job.pages()]
    numbers = [number for number, drawing in enumerate(drawings, start=1) if word in words_on(drawing)]
    found = []
    for leaf, marks in enumerate(job.copy()):
        for side, mark in zip(("above", "below"), marks):
            if mark[0] in numbers:
                found.append((leaf, side, mark[0]))
    return found


def write_word_list(job):
    """Return the text of the word list, a line for each word."""
    lines = []
    for word, numbers in word_list(job):
        pages = ",".join([str(number) for number in numbers])
        lines.append(f"{word} {pages}")
    return "\n".join(lines)
