"""Groups made of shuffles: shufflegroups.groups.answers(calls) is the way in."""
