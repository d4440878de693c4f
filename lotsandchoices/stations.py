"""The stations of a tree: the faults that are looked for station by station."""

from lotsandchoices.fault import Fault, LABEL_TWICE, OTHER_LABELS, TOO_MANY_STATIONS
from lotsandchoices.tree import STATION, in_text_order

MOST_STATIONS = 12


class Station:
    """A station, however many places it stands at."""

    def __init__(self, name, labels):
        self.name = name
        self.labels = labels
        self.places = 0


def refuse_label_twice(tree):
    earlier = {}
    for label, place in zip(tree.labels, tree.label_places):
        if label in earlier:
            raise Fault(LABEL_TWICE, place)
        earlier[label] = True


def number_of(tree, stations):
    """The number of the station that stands here; behind all others, if its name is new."""
    for number, station in enumerate(stations):
        if station.name == tree.name:
            if station.labels != tree.labels:
                raise Fault(OTHER_LABELS, tree.place)
            return number
    if len(stations) == MOST_STATIONS:
        raise Fault(TOO_MANY_STATIONS, tree.place)
    return len(stations)


def number_stations(whole):
    """The stations in order; the tree at each of their places is given the station's number."""
    stations = []
    for tree in in_text_order(whole):
        if tree.kind == STATION:
            refuse_label_twice(tree)
            tree.station = number_of(tree, stations)
            if tree.station == len(stations):
                stations.append(Station(tree.name, tree.labels))
            stations[tree.station].places += 1
    return stations


def policy_count(stations):
    many = 1
    for station in stations:
        many *= len(station.labels)
    return many


def is_policy(choices, stations):
    """Whether the numbers are as many as stations, and each the number of a label there."""
    if len(choices) != len(stations):
        return False
    return all([0 <= choice < len(station.labels) for choice, station in zip(choices, stations)])


def policy_at(stations, number):
    """The policy of this number in the order of the policies, from 0: the last station changes first."""
    choices = []
    for station in reversed(stations):
        choices.append(number % len(station.labels))
        number = number // len(station.labels)
    return list(reversed(choices))
