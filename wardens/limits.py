"""The limits that the functions of wardens.doors, and wardens and fleets keep to."""

STATES = 200
READINGS = 200
PAIRS = 400
SETS = 200
TWINS = 2000
TRIALS = 400
WARDENS = 8
OPERATIONS = 60
