"""The numbers that refuse a call. Where several would do, the one that stands first here is answered."""

OUT_OF_RANGE = -2
CANNOT_RUN = -4
FULL = -8
NO_WAY = -1
TOO_MANY = -3
