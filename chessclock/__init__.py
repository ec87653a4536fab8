"""Chessclock: clocks for games of two, exact to the tick."""
