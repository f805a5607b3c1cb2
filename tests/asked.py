"""Judge asked together with the calls that refuse what it refuses, so that each test of judge is one of these too."""

from glasspages import pages


def agreeing(call, answer, expected):
    if answer != expected:
        raise AssertionError(f"{call}: {answer[:5]} in the place of {expected[:5]}")


def cartoon_told(octets):
    """The cartoon of a workshop's bytes, found without the program."""
    return octets[80:80 + int.from_bytes(bytes(octets[4:8]), "little")]


def judge(octets):
    """What judge answers; printed refuses the same, plan too, or else gives the cartoon."""
    answer = pages.judge(octets)
    if answer == [0]:
        cartoon = cartoon_told(octets)
        agreeing("plan", pages.plan(octets), [0, len(cartoon)] + cartoon)
    else:
        agreeing("printed", pages.printed(octets), answer)
        agreeing("plan", pages.plan(octets), answer)
    return answer
