"""Two names compared, each a row of 16 bytes: letters A to Z, then zeros."""

LETTER_A = 65
LETTER_Z = 90
LEAST_BEGINNING = 3
MOST_CLASSES = 3

# The classes of A to Z in their order; 0 is a letter that has none.
CLASSES = (0, 1, 2, 3, 0, 1, 2, 0, 0, 2, 2, 4, 5, 5, 0, 1, 2, 6, 2, 3, 0, 1, 0, 2, 0, 2)


def name_is_right(name):
    ended = False
    for byte in name:
        if byte == 0:
            ended = True
        elif ended or byte < LETTER_A or byte > LETTER_Z:
            return False
    return True


def letters_of(name):
    return [byte for byte in name if byte != 0]


def shared_beginning(a, b):
    shared = 0
    while shared < len(a) and shared < len(b) and a[shared] == b[shared]:
        shared += 1
    return shared


def one_is_another(a, b):
    place = shared_beginning(a, b)
    return place < len(a) and a[place + 1:] == b[place + 1:]


def neighbours_changed(a, b):
    # The first place at which they differ is where the two neighbours are: so these are different ones too.
    place = shared_beginning(a, b)
    if place + 1 >= len(a):
        return False
    crossed = a[place] == b[place + 1] and a[place + 1] == b[place]
    return crossed and a[place + 2:] == b[place + 2:]


def one_left_out(longer, shorter):
    # Within a run of like letters it's no matter which one is left out: so the first difference is enough.
    place = shared_beginning(longer, shorter)
    return longer[place + 1:] == shorter[place:]


def one_change_apart(a, b):
    if len(a) == len(b):
        return one_is_another(a, b) or neighbours_changed(a, b)
    if len(a) == len(b) + 1:
        return one_left_out(a, b)
    if len(b) == len(a) + 1:
        return one_left_out(b, a)
    return False


def one_begins_with_other(a, b):
    shorter = min(len(a), len(b))
    return shorter >= LEAST_BEGINNING and shared_beginning(a, b) == shorter


def sound_of(letters):
    sounds = []
    for letter in letters[1:]:
        letter_class = CLASSES[letter - LETTER_A]
        if letter_class != 0 and (len(sounds) == 0 or sounds[-1] != letter_class):
            sounds.append(letter_class)
    return letters[:1] + sounds[:MOST_CLASSES]


# Both names are right ones: a record that holds another is never kept.
def likeness(name_a, name_b):
    a = letters_of(name_a)
    b = letters_of(name_b)
    if len(a) == 0 or len(b) == 0:
        return 0
    if a == b:
        return 5
    if one_change_apart(a, b):
        return 4
    if one_begins_with_other(a, b):
        return 3
    if sound_of(a) == sound_of(b):
        return 2
    return 1
