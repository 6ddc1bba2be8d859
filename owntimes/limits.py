"""The limits that the parts of the program share."""

MOST_STATIONS = 6
MOST_LINKS = 12
MOST_HANDS = 4
MOST_STOCK = 5
MOST_NUMBER = 1000
MOST_LAGS = 2000
