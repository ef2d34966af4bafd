"""Where in the memory of its computer a house keeps what a round needs."""

CELLS = 0
HEARD = 10
INPUT = 20
DONE = 21
SAID = 30
COUNT = 40
SHOWN = 41
FREE = 50
OWN = 100
