"""The numbers by which calls are refused."""

OUT_OF_RANGE = -2
NO_HOLDER = -3
NOT_NOW = -4
NOT_GENUINE = -5
NO_ROOM = -6
NOT_ITS_TIME = -7
