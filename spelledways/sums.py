"""Frames: octets with their length and a check sum, so that a cut or a change shows."""

from spelledways.errors import InvalidSize, Refused

MODULUS = 4294967291
GREATEST_BODY = 65535
HEAD = 4
TAIL = 4


def check_sum(octets):
    """What the modulus leaves of the number whose figures by 256 are 1 and the octets."""
    left = 1
    for octet in octets:
        left = (left * 256 + octet) % MODULUS
    return left


def figures_of(number, many):
    """So many figures by 256 of a number, the highest first."""
    figures = []
    for _ in range(many):
        figures.append(number % 256)
        number = number // 256
    return tuple(figures[::-1])


def number_of_figures(figures):
    """The number with these figures by 256."""
    number = 0
    for figure in figures:
        number = number * 256 + figure
    return number


def put_frame(body):
    """The frame of a body."""
    many = len(body)
    if many > GREATEST_BODY:
        raise InvalidSize("body")
    summed = figures_of(many, 2) + figures_of(GREATEST_BODY - many, 2) + tuple(body)
    return summed + figures_of(check_sum(summed), TAIL)


def get_frame(octets, at):
    """The body of the frame at a place, and the place behind the frame."""
    if len(octets) - at < HEAD:
        raise Refused("cut")
    many = number_of_figures(octets[at:at + 2])
    if many + number_of_figures(octets[at + 2:at + HEAD]) != GREATEST_BODY:
        raise Refused("broken")
    end = at + HEAD + many
    if len(octets) < end + TAIL:
        raise Refused("cut")
    if check_sum(octets[at:end]) != number_of_figures(octets[end:end + TAIL]):
        raise Refused("broken")
    return tuple(octets[at + HEAD:end]), end + TAIL


def read_frames(octets):
    """The bodies of the frames from the begin on, the place behind them, and a word for what is there."""
    bodies = []
    end = 0
    while end < len(octets):
        try:
            body, end = get_frame(octets, end)
        except Refused as refusal:
            return tuple(bodies), end, refusal.word
        bodies.append(body)
    return tuple(bodies), end, "whole"
