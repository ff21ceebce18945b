"""The numbers beyond which something is refused."""

# The FACTORS of a TERM.
MOST = 6
# The PARTS of a SUM, and the ROWS of a BOX in ARRAYS.
LONG = 400
# The WEIGHT of a TERM of which a FORM is looked for.
HEAVY = 5000
# The work of telling a WORTH or a WITNESS.
WIDE = 200000
# The numbers that the names of two SUMS can stand for at told SIZES.
CHOICES = 20000
# A SIZE.
GREATEST = 24
# The PAIRS that a Shelf keeps.
PAIRS = 8
