"""Worths that several tests ask about."""

# 1 is liked by 0, and more by 2; 2 is nothing for 0.
THREE = [0, 4, -9,
         3, 0, 2,
         1, 6, 0]

# 0 and 3 like each other, 1 and 2 do.
TWOS = [0, -1, -1, 8,
        -1, 0, 6, -1,
        -1, 7, 0, -1,
        5, -1, -1, 0]

# 1 and 3 like each other; so do 0, 2 and 4, but that 2 is a burden to 4.
FIVE = [0, -5, 3, -5, 2,
        -5, 0, -5, 9, -5,
        4, -5, 0, -5, 1,
        -5, 8, -5, 0, -5,
        6, -5, -2, -5, 0]

# Each of five in a ring likes the next one most and the one before them a little, and nobody else.
RING = [0, 2, -20, -20, 1,
        1, 0, 2, -20, -20,
        -20, 1, 0, 2, -20,
        -20, -20, 1, 0, 2,
        2, -20, -20, 1, 0]
