"""The bounds of the program."""

MOST = 10 ** 12
BOOKS = 60
DEEP = 12
COPIES = 10 ** 15
ROW = 400
SMALL = 60
FRONTS = 2000
DEEDS = 200
LOG = 100
