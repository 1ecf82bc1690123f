"""What the tests share: calls written by name, and machines written out."""

from twopads.games import answers

NUMBER_OF_CALL = {
    "begin": 0, "frame": 1, "send": 2, "hand": 3, "lose": 4, "net": 5, "now": 6, "settled": 7,
    "state": 8, "pads": 9, "fault": 10, "watch": 11, "film": 12, "differ": 13, "both": 14, "runs": 15,
}

# A program that puts what is pressed into a, then adds it to place 100, and begins anew each frame.
# Behind t frames, place 100 has the sum of the t pads together, modulo 256.
SUMMING = [2, 127, 8, 100, 3, 100, 0, 0, 12, 0]


def coded(calls):
    """The list of numbers for calls like ("begin", 0, 1, [7, 8]) or ("frame", 0, 15)."""
    numbers = []
    for call in calls:
        numbers.append(NUMBER_OF_CALL[call[0]])
        for part in call[1:]:
            if isinstance(part, list):
                numbers.append(len(part))
                numbers.extend(part)
            else:
                numbers.append(part)
    return numbers


def split(given):
    """The answers, a list each, out of the one list that was given back."""
    parts = []
    place = 0
    while place < len(given):
        end = place + 1 + given[place]
        if end > len(given):
            raise AssertionError(f"an answer is cut short: {given}")
        parts.append(given[place + 1:end])
        place = end
    return parts


def play(*calls):
    """What each of these calls answers, a list each."""
    parts = split(answers(coded(calls)))
    if len(parts) != len(calls):
        raise AssertionError(f"{len(calls)} calls, {len(parts)} answers")
    return parts


def last(*calls):
    return play(*calls)[-1]


def mark_of(numbers):
    """The mark as one sum: each number and 7, by how many numbers stand behind it."""
    total = 0
    for behind, number in enumerate(reversed(numbers)):
        total += (number + 7) * 31 ** behind
    return total % 65521


def machine(some_bytes, a=0, x=0, place=0, z=1, c=0, changed=None):
    """All of a machine as numbers; changed says which bytes are other ones than were loaded."""
    memory = list(some_bytes) + [0] * (128 - len(some_bytes))
    for where, byte in (changed or {}).items():
        memory[where] = byte
    return [a, x, place, z, c] + memory


def summed_machine(pads, faults=None, others=None):
    """All of the machine loaded with SUMMING behind frames with these pads (each: both sides', together).

    faults: by frame, which byte place 100 is as it begins. others: bytes at places that the program leaves alone.
    """
    total = 0
    a, place, z, c = 0, 0, 1, 0
    for t, pad in enumerate(pads):
        total = (faults or {}).get(t, total)
        c = 1 if total + pad >= 256 else 0
        total = (total + pad) % 256
        a, place, z = total, 8, 1 if total == 0 else 0
    changed = {100: total}
    if pads:
        changed[127] = pads[-1]
    changed.update(others or {})
    return machine(SUMMING, a=a, place=place, z=z, c=c, changed=changed)


def summed(pads, faults=None, others=None):
    return mark_of(summed_machine(pads, faults, others))


def frames(side, pads):
    return [("frame", side, pad) for pad in pads]


def handed_on(side):
    """The side sends a letter onto an empty net, and it is handed over and gone."""
    return [("send", side), ("hand", 0, 0)]
