"""How much a program, a family, a turn and a growth may have."""

FUNCTIONS = 10
DEPTH = 5
CHAIN = 12
STATEMENTS = 60
COURSE = 100
FAMILY = 1500
MOMENTS = 100000
STANDS = 3000
