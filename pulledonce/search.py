"""The shortest way through places that lie behind each other, by words."""


def shortest_row(start, found, behind):
    """The words of a shortest way from a start to a place that is found, or None if there is none.

    found(place) tells whether a place is one, behind(place) returns the list of tuples
    (word, place) of those that lie behind it. Places are keys of a dict.
    """
    if found(start):
        return []
    places = [start]
    ways = {start: None}
    at = 0
    while at < len(places):
        here = places[at]
        for word, place in behind(here):
            if place in ways:
                continue
            ways[place] = (here, word)
            if found(place):
                return words_of_way(ways, place)
            places.append(place)
        at += 1
    return None


def words_of_way(ways, place):
    """The words up to a place, if ways has for each one the place ahead of it and the word between."""
    words = []
    while ways[place] is not None:
        place, word = ways[place]
        words.append(word)
    words.reverse()
    return words
