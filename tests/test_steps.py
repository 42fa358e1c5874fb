"""Point 10: sq_steps."""

import unittest

from tests.helper import boxes, cells, count, cyclic, drawn, last, load, put, rows_as_regions, run, steps, told
from tests.helper import told_lines

LOWEST = -2147483648
HIGHEST = 2147483647

JIGSAW = [0, 0, 0, 1, 1, 0, 0, 1, 1, 1, 2, 2, 2, 3, 3, 2, 4, 4, 4, 3, 2, 4, 4, 3, 3]

# What each is about, the square, its rows, and the lines.
CASES = (
    (
        "a cell with one candidate",
        put(4, 1, rows_as_regions(4)),
        ".123 234. 32.. 1432",
        (
            "r1c1=4 alone",
            "r2c4=1 alone",
            "r3c3=1 alone",
            "r3c4=4 alone",
            "done",
        ),
    ),
    (
        "a digit in a row",
        put(6, 0, boxes(6, 2, 3)),
        "..4... 53..4. 4..... 3....4 ...4.. ....5.",
        (
            "r6c2=4 in row 6",
            "stuck",
        ),
    ),
    (
        "digits in units, up to the end",
        put(5, 0, JIGSAW),
        "1..2. 2.... .213. ..4.2 53241",
        (
            "r3c1=4 alone",
            "r3c5=5 alone",
            "r4c1=3 alone",
            "r2c4=1 in row 2",
            "r4c4=5 alone",
            "r4c2=1 alone",
            "r1c3=3 in region 1",
            "r1c5=4 alone",
            "r1c2=5 alone",
            "r2c2=4 alone",
            "r2c3=5 alone",
            "r2c5=3 alone",
            "done",
        ),
    ),
    (
        "a digit in a region",
        put(7, 0, cyclic(7)),
        "3.4.7.. ....56. ....... .....7. ..2.... ...3..6 .......",
        (
            "r3c5=3 in region 7",
            "stuck",
        ),
    ),
    (
        "a digit in a diagonal",
        put(8, 1, boxes(8, 2, 4)),
        "..4..... ...5.7.. 7....... ....7.1. 5....1.. ........ .....8.. .17...5.",
        (
            "r7c7=7 in diagonal 1",
            "stuck",
        ),
    ),
    (
        "cells alone before digits in units",
        put(4, 0, rows_as_regions(4)),
        "43.. 3... 1... .1..",
        (
            "r4c1=2 alone",
            "stuck",
        ),
    ),
    (
        "units before digits",
        put(4, 0, boxes(4, 2, 2)),
        "..13 1... .1.. ....",
        (
            "r2c2=3 in row 2",
            "r4c4=1 in row 4",
            "stuck",
        ),
    ),
    (
        "lower digits of a unit first",
        put(7, 1, rows_as_regions(7)),
        ".23.... ....6.. 5...3.. .4..... ......1 ....263 ..2.1..",
        (
            "r4c4=2 in diagonal 1",
            "r2c2=3 in diagonal 1",
            "stuck",
        ),
    ),
    (
        "digits in units before digits of a unit in another",
        put(7, 0, rows_as_regions(7)),
        "...4.7. 24..7.. ......4 ....1.. 4.7.3.. 6...... 5..2.13",
        (
            "r7c2=7 in row 7",
            "stuck",
        ),
    ),
    (
        "a digit of a row in a region",
        put(6, 0, boxes(6, 2, 3)),
        "...2.5 .2.... ...... ....2. 6..... ....6.",
        (
            "6 of row 1 in region 1: r2c3",
            "stuck",
        ),
    ),
    (
        "a digit of a diagonal in a region",
        put(6, 1, boxes(6, 2, 3)),
        "...13. .....4 .5.... 3..... 2.5... ......",
        (
            "5 of diagonal 2 in region 2: r2c4",
            "stuck",
        ),
    ),
    (
        "a digit of a region in a row",
        put(9, 0, boxes(9, 3, 3)),
        "......... 257...... ........5 3.2...... ......2.. 4.8...... .2.6.4.7. ........2 ..1......",
        (
            "5 of region 4 in row 5: r5c4 r5c5 r5c6 r5c8",
            "stuck",
        ),
    ),
    (
        "a digit of a unit in another, up to the end",
        put(5, 0, JIGSAW),
        "2.... .3... 3..1. ..... 1..5.",
        (
            "1 of row 2 in region 2: r1c5",
            "r2c5=1 in column 5",
            "r1c5=5 in column 5",
            "r1c4=3 in row 1",
            "r2c1=5 in row 2",
            "r4c1=4 alone",
            "r4c4=2 alone",
            "r2c4=4 alone",
            "r2c3=2 alone",
            "r3c3=5 alone",
            "r3c2=2 alone",
            "r3c5=4 alone",
            "r4c5=3 alone",
            "r4c3=1 alone",
            "r1c3=4 alone",
            "r1c2=1 alone",
            "r4c2=5 alone",
            "r5c2=4 alone",
            "r5c3=3 alone",
            "r5c5=2 alone",
            "done",
        ),
    ),
    (
        "units before digits where a digit of one is in another",
        put(5, 0, JIGSAW),
        ".1... .2... .53.. .32.. .....",
        (
            "r5c2=4 alone",
            "5 of column 1 in region 1: r1c3",
            "r1c3=4 alone",
            "stuck",
        ),
    ),
    (
        "the one unit before the other",
        put(6, 0, boxes(6, 2, 3)),
        "52.... ..6... ...... ....2. ...5.6 6.....",
        (
            "2 of row 5 in region 5: r6c3",
            "stuck",
        ),
    ),
    (
        "the other unit before the digit",
        put(9, 0, boxes(9, 3, 3)),
        "......7.. ........5 .....8... 3.4...... ..8...1.. .....2... ....2..9. ....8.... 8635.....",
        (
            "9 of row 9 in region 8: r8c4 r8c6",
            "2 of row 9 in region 9: r8c7 r8c8 r8c9",
            "stuck",
        ),
    ),
    (
        "a digit of a unit in another before two cells",
        put(6, 0, boxes(6, 2, 3)),
        ".1.365 ...2.. .25.3. 1....2 .6.... ....2.",
        (
            "4 of row 1 in region 1: r2c1 r2c2 r2c3",
            "stuck",
        ),
    ),
    (
        "two cells of a row",
        put(7, 0, cyclic(7)),
        ".13.... ..2..4. ......2 5...67. .....5. ....... .......",
        (
            "r4c3 r4c7 have 14 in row 4: r4c2-4 r4c4-1",
            "stuck",
        ),
    ),
    (
        "two cells of a region",
        put(7, 0, cyclic(7)),
        ".4..... ...7... ...1... ..73... ..5.... ......2 6......",
        (
            "r1c7 r6c2 have 17 in region 7: r2c6-1 r3c5-7",
            "stuck",
        ),
    ),
    (
        "two cells of a diagonal",
        put(6, 1, boxes(6, 2, 3)),
        "53.... ...... .....2 4..... ...... ....13",
        (
            "r3c3 r4c4 have 16 in diagonal 1: r2c2-1 r2c2-6 r5c5-6",
            "stuck",
        ),
    ),
    (
        "two cells, up to the end",
        put(5, 1, cyclic(5)),
        "..... ....2 .1..4 ..... ....3",
        (
            "r2c2 r2c3 have 45 in row 2: r2c1-5 r2c4-4 r2c4-5",
            "r2c2 r5c2 have 45 in column 2: r1c2-5 r4c2-4 r4c2-5",
            "r5c1=4 in region 5",
            "r5c2=5 alone",
            "r1c1=1 alone",
            "r1c5=5 alone",
            "r2c1=3 alone",
            "r1c2=2 alone",
            "r1c4=4 alone",
            "r1c3=3 alone",
            "r2c2=4 alone",
            "r2c3=5 alone",
            "r2c4=1 alone",
            "r3c3=2 alone",
            "r3c1=5 alone",
            "r3c4=3 alone",
            "r4c1=2 alone",
            "r4c2=3 alone",
            "r4c3=4 alone",
            "r4c4=5 alone",
            "r4c5=1 alone",
            "r5c3=1 alone",
            "r5c4=2 alone",
            "done",
        ),
    ),
    (
        "the first unit with two cells",
        put(5, 0, rows_as_regions(5)),
        "..354 .4... ....2 .5..3 ...4.",
        (
            "r3c2 r3c4 have 13 in row 3: r3c1-1 r3c1-3 r3c3-1",
            "stuck",
        ),
    ),
    (
        "the first two cells of a unit",
        put(9, 0, rows_as_regions(9)),
        "2......9. ...5948.. 12..6.957 46.7.9..5 ....3761. .8..423.. .5..7..83 .9...612. 9768.....",
        (
            "r4c7=2 alone",
            "r4c8=3 alone",
            "r5c2=4 alone",
            "r7c1=6 alone",
            "r7c6=1 alone",
            "r7c7=4 alone",
            "r9c7=5 alone",
            "r1c7=7 alone",
            "r9c6=3 alone",
            "r3c6=8 alone",
            "r1c6=5 alone",
            "r9c8=4 alone",
            "r9c5=2 in column 5",
            "r9c9=1 alone",
            "r8c5=5 in column 5",
            "r3c4 r8c4 have 34 in column 4: r1c4-3 r1c4-4",
            "r5c4 r7c4 have 29 in column 4: r6c4-9",
            "stuck",
        ),
    ),
    (
        "two cells before two rows",
        put(5, 1, rows_as_regions(5)),
        "...2. .1... ..... 5.... .4...",
        (
            "r1c1 r4c4 have 34 in diagonal 1: r3c3-3 r3c3-4 r5c5-3",
            "1 of rows 1 4 in columns 3 5: r3c5 r5c3",
            "stuck",
        ),
    ),
    (
        "two rows",
        put(7, 1, rows_as_regions(7)),
        ".1..6.. 5..31.. .....4. .24.... .5..3.. .3.1... .......",
        (
            "3 of rows 1 7 in columns 3 6: r4c6",
            "stuck",
        ),
    ),
    (
        "two columns",
        put(7, 1, rows_as_regions(7)),
        "....... .31.2.. .6..... ...7... ..3.... 12....3 .75....",
        (
            "7 of columns 3 5 in rows 1 6: r1c6",
            "stuck",
        ),
    ),
    (
        "two rows, up to the end",
        put(5, 0, cyclic(5)),
        "..... .3.41 ...5. ...3. ....3",
        (
            "r1c1=3 in row 1",
            "r3c3=3 in row 3",
            "1 of rows 3 4 in columns 1 2: r1c2 r5c1",
            "r5c3=1 in region 2",
            "r5c4=2 alone",
            "r1c4=1 alone",
            "r5c1=5 alone",
            "r1c5=2 alone",
            "r2c1=2 alone",
            "r2c3=5 alone",
            "r1c3=4 alone",
            "r1c2=5 alone",
            "r3c1=1 alone",
            "r3c5=4 alone",
            "r3c2=2 alone",
            "r4c1=4 alone",
            "r4c2=1 alone",
            "r4c3=2 alone",
            "r4c5=5 alone",
            "r5c2=4 alone",
            "done",
        ),
    ),
    (
        "two rows before two columns",
        put(4, 0, boxes(4, 2, 2)),
        "1..3 ..1. 4..1 .1..",
        (
            "2 of rows 1 3 in columns 2 3: r2c2 r4c3",
            "stuck",
        ),
    ),
    (
        "two rows before two columns with a lower digit",
        put(7, 0, cyclic(7)),
        "..1.... ..21... .3..46. ..7.132 ..6.... .2...1. ...3..6",
        (
            "r3c3=5 alone",
            "r3c1=7 alone",
            "r3c4=2 alone",
            "r3c7=1 alone",
            "r4c4=5 alone",
            "r2c6=7 alone",
            "r1c7=3 alone",
            "r7c1=1 alone",
            "r7c3=4 alone",
            "r6c3=3 alone",
            "r7c6=2 alone",
            "r1c1=2 in row 1",
            "r2c5=3 in row 2",
            "r5c2=1 in row 5",
            "r5c5=2 in row 5",
            "r5c1=3 in row 5",
            "6 of rows 2 4 in columns 1 2: r1c2",
            "r1c2 r7c2 have 57 in column 2: r2c2-5",
            "7 of rows 5 6 in columns 4 7: r1c4",
            "r1c4 r4c1 have 46 in region 4: r5c7-4",
            "stuck",
        ),
    ),
    (
        "the lower digit of two rows",
        put(5, 0, cyclic(5)),
        "4.... ..3.. ...3. ..5.3 .....",
        (
            "r1c2=3 in row 1",
            "r5c1=3 in row 5",
            "4 of rows 2 4 in columns 2 4: r3c2 r5c4",
            "r2c2=4 in region 3",
            "r4c4=4 in row 4",
            "r3c3=4 in row 3",
            "r5c5=4 in row 5",
            "r5c4=5 in row 5",
            "r1c5=5 in row 1",
            "r2c1=5 in row 2",
            "r3c2=5 in row 3",
            "stuck",
        ),
    ),
    (
        "the first two rows",
        put(9, 0, rows_as_regions(9)),
        "...456789 ...678923 ...169238 698...471 952...614 736...842 3........ ....4.3.. .........",
        (
            "r1c3=3 in row 1",
            "5 of rows 2 3 in columns 1 3: r7c3 r8c1 r8c3 r9c1 r9c3",
            "5 of rows 4 6 in columns 4 6: r7c4 r7c6 r8c4 r8c6 r9c4 r9c6",
            "stuck",
        ),
    ),
    (
        "two rows before three cells",
        put(7, 0, rows_as_regions(7)),
        ".3.547. 3....65 ..3165. 21..534 ..7...1 ..4..13 6...14.",
        (
            "r1c1=1 alone",
            "r4c3=6 alone",
            "r1c3=2 alone",
            "r1c7=6 alone",
            "r2c3=1 alone",
            "r4c4=7 alone",
            "r5c6=2 alone",
            "r5c5=3 alone",
            "r7c3=5 alone",
            "r7c4=3 in row 7",
            "2 of rows 3 7 in columns 2 7: r2c2 r6c2",
            "r2c2 r3c2 r7c2 have 247 in column 2: r5c2-4 r6c2-7",
            "stuck",
        ),
    ),
    (
        "three cells of a row",
        put(7, 0, cyclic(7)),
        "....... 4...5.. 63..... .....2. ....... 7.4...2 .5.....",
        (
            "r3c3 r3c6 r3c7 have 157 in row 3: r3c4-1 r3c5-1 r3c5-7",
            "stuck",
        ),
    ),
    (
        "three cells of a region",
        put(7, 0, cyclic(7)),
        "...6.5. ...5... ..2.... 4...... .6...7. ....31. .......",
        (
            "r1c3 r2c2 r7c4 have 124 in region 3: r3c1-1 r4c7-1 r4c7-2",
            "stuck",
        ),
    ),
    (
        "three cells of a diagonal",
        put(5, 1, rows_as_regions(5)),
        ".4... 1.... 52... ..5.. ..2..",
        (
            "r3c3 r4c2 r5c1 have 134 in diagonal 2: r1c5-1 r1c5-3 r2c4-3 r2c4-4",
            "stuck",
        ),
    ),
    (
        "three cells, up to the end",
        put(6, 1, rows_as_regions(6)),
        "..2... .43... ...... ...5.6 .2.134 ...61.",
        (
            "r2c4=2 alone",
            "r6c6=2 alone",
            "r2c5=6 in diagonal 2",
            "3 of rows 4 6 in columns 1 2: r1c2 r3c1 r3c2",
            "r1c1 r2c1 r5c1 have 156 in column 1: r3c1-1 r3c1-5 r3c1-6 r4c1-1 r6c1-5",
            "r1c6=5 in diagonal 2",
            "r1c5=4 alone",
            "r1c4=3 alone",
            "r2c6=1 alone",
            "r2c1=5 alone",
            "r3c4=4 alone",
            "r3c1=2 alone",
            "r3c5=5 alone",
            "r3c6=3 alone",
            "r4c3=1 alone",
            "r3c3=6 alone",
            "r1c1=1 alone",
            "r1c2=6 alone",
            "r3c2=1 alone",
            "r4c2=3 alone",
            "r4c1=4 alone",
            "r4c5=2 alone",
            "r5c1=6 alone",
            "r5c3=5 alone",
            "r6c1=3 alone",
            "r6c2=5 alone",
            "r6c3=4 alone",
            "done",
        ),
    ),
    (
        "the first unit with three cells",
        put(8, 0, boxes(8, 2, 4)),
        "......7. ..1.2.4. ....6.87 .8..312. .....46. .......3 ...1...6 ...34...",
        (
            "r3c6=5 alone",
            "r4c8=4 alone",
            "r7c7=3 in column 7",
            "r6c6 r7c6 r8c6 have 278 in column 6: r1c6-8 r2c6-8",
            "stuck",
        ),
    ),
    (
        "the first three cells of a unit",
        put(9, 0, rows_as_regions(9)),
        "........9 ..7.8.... 58.723... 458179... 8...95... 9753.8... 7968.2... .64917... 649231...",
        (
            "r3c3=1 alone",
            "r1c1 r1c2 r1c3 have 123 in row 1: r1c7-1 r1c7-2 r1c7-3 r1c8-1 r1c8-2 r1c8-3",
            "r1c4 r1c5 r1c6 have 456 in row 1: r1c7-4 r1c7-5 r1c7-6 r1c8-4 r1c8-5 r1c8-6",
            "stuck",
        ),
    ),
    (
        "three cells before three rows",
        put(9, 0, boxes(9, 3, 3)),
        ".6...3..8 .4...82.9 ..9.2...4 ..4....9. .37...5.. 5........ ...6.2... ...9...7. .21.856..",
        (
            "r9c9=3 alone",
            "r9c8=4 alone",
            "r9c4=7 alone",
            "r9c1=9 alone",
            "r1c5=9 in row 1",
            "r1c4=4 in row 1",
            "r5c6=9 in row 5",
            "r5c5=4 in row 5",
            "r6c7=4 in row 6",
            "r6c2=9 in row 6",
            "r7c1=4 in row 7",
            "r7c2=7 in row 7",
            "r7c7=9 in row 7",
            "r8c9=2 in row 8",
            "r8c6=4 in row 8",
            "r7c9=5 in column 9",
            "3 of column 4 in region 5: r4c5 r6c5",
            "1 of column 9 in region 6: r4c7 r5c8 r6c8",
            "6 of column 9 in region 6: r5c8 r6c8",
            "7 of column 9 in region 6: r4c7",
            "1 of region 8 in column 5: r2c5 r4c5 r6c5",
            "r2c4 r3c4 have 15 in column 4: r4c4-1 r4c4-5 r5c4-1 r6c4-1",
            "r4c5=5 in row 4",
            "1 of column 4 in region 2: r3c6",
            "r5c4 r5c8 have 28 in row 5: r5c1-2 r5c1-8",
            "r6c5 r6c6 r6c9 have 167 in row 6: r6c3-6",
            "r8c3=6 in column 3",
            "r8c2=5 in row 8",
            "8 of rows 5 6 7 in columns 3 4 8: r4c4",
            "stuck",
        ),
    ),
    (
        "three rows",
        put(8, 1, boxes(8, 2, 4)),
        ".....6.. .53..... ...5..41 ......2. .81..4.6 ........ .3..4... ......7.",
        (
            "r7c7=6 in column 7",
            "3 of rows 1 3 5 in columns 1 5 7: r4c1 r6c1 r6c5 r6c7 r8c5",
            "stuck",
        ),
    ),
    (
        "three columns",
        put(9, 1, boxes(9, 3, 3)),
        "..3..56.7 5......4. ..9....25 .3.7..59. ...9..7.. 6..5...3. 3.2..4..9 7....9... ..68..2..",
        (
            "r1c5=9 in row 1",
            "r2c7=9 in row 2",
            "r6c2=9 in row 6",
            "r6c3=7 in row 6",
            "r9c1=9 in row 9",
            "r3c2=7 in column 2",
            "r2c2=6 in column 2",
            "r8c8=5 in diagonal 1",
            "r5c3=5 in column 3",
            "r4c6=6 in diagonal 2",
            "2 of row 2 in region 2: r1c4",
            "4 of column 4 in region 2: r3c5",
            "4 of columns 3 5 7 in rows 4 6 8: r4c1 r4c9 r6c9 r8c9",
            "stuck",
        ),
    ),
    (
        "three rows before three columns",
        put(7, 0, rows_as_regions(7)),
        "...45.6 ....... ...561. 3...16. 5.4.32. .41.... .7.....",
        (
            "r4c7=4 in row 4",
            "r3c1=4 in row 3",
            "7 of rows 3 4 5 in columns 3 4 7: r1c3 r2c3 r2c4 r2c7 r6c4 r6c7",
            "stuck",
        ),
    ),
    (
        "three rows before three columns with a lower digit",
        put(9, 0, rows_as_regions(9)),
        "...456789 ...718642 ...642895 ......953 ......234 ......368 5........ .49...... .........",
        (
            "3 of rows 1 2 3 in columns 1 2 3: r7c2 r7c3 r8c1 r9c1 r9c2 r9c3",
            "1 of columns 7 8 9 in rows 7 8 9: r7c2 r7c3 r7c4 r7c6 r8c1 r8c4 r8c6 r9c1 r9c2 r9c3 r9c4 r9c6",
            "stuck",
        ),
    ),
    (
        "the lower digit of three rows",
        put(9, 1, rows_as_regions(9)),
        "....4586. ..15..78. 3.24769.. ..9.1...3 6..9..1.. ....5.23. ..46...1. ......3.1 ...3914..",
        (
            "r3c8=5 alone",
            "r3c9=8 alone",
            "r3c2=1 alone",
            "r5c5=3 alone",
            "r7c7=5 alone",
            "r4c7=6 alone",
            "r2c6=3 in row 2",
            "r7c2=3 in row 7",
            "r1c3=3 in row 1",
            "r8c8=9 in column 8",
            "r1c2=9 in row 1",
            "r7c6=9 in column 6",
            "r5c9=5 in column 9",
            "r1c1=1 in diagonal 1",
            "r6c4=1 in row 6",
            "r8c2=6 in diagonal 2",
            "r2c2=4 alone",
            "r2c5=6 in column 5",
            "r6c9=4 in column 9",
            "r6c3=6 in row 6",
            "r6c1=9 in row 6",
            "r2c1=2 alone",
            "r2c9=9 alone",
            "r9c9=6 in row 9",
            "r9c1=5 in diagonal 2",
            "r4c2=5 in row 4",
            "r8c3=5 in row 8",
            "2 of rows 4 5 9 in columns 2 6 8: r8c6",
            "8 of rows 5 6 9 in columns 2 3 6: r8c6",
            "stuck",
        ),
    ),
    (
        "the first three rows",
        put(9, 0, rows_as_regions(9)),
        "...456789 ...179658 ...687492 849...526 597...861 786...214 ......... ......... .........",
        (
            "r4c4=7 in row 4",
            "3 of rows 1 2 3 in columns 1 2 3: r7c1 r7c2 r7c3 r8c1 r8c2 r8c3 r9c1 r9c2 r9c3",
            "3 of rows 4 5 6 in columns 4 5 6: r7c4 r7c5 r7c6 r8c4 r8c5 r8c6 r9c4 r9c5 r9c6",
            "stuck",
        ),
    ),
    (
        "three rows before four cells",
        put(9, 0, boxes(9, 3, 3)),
        "1.....78. 53..8.12. .7.12.3.. 4.2..389. ......... .9.4...61 ....6..1. .1......8 ..7.31.4.",
        (
            "r3c8=5 alone",
            "r1c2=2 in row 1",
            "r1c4=3 in row 1",
            "r4c5=1 in row 4",
            "r5c3=1 in row 5",
            "r7c2=4 in column 2",
            "r5c7=4 in column 7",
            "3 of row 6 in region 4: r5c1",
            "6 of column 7 in region 9: r9c9",
            "9 of column 7 in region 9: r7c9 r9c9",
            "7 of rows 2 4 7 in columns 4 6 9: r5c4 r5c6 r5c9 r6c6 r8c4 r8c6",
            "r7c7 r8c7 r9c7 r9c9 have 2569 in region 9: r7c9-2 r7c9-5",
            "stuck",
        ),
    ),
    (
        "four cells of a row",
        put(9, 1, boxes(9, 3, 3)),
        "...45...7 .....9.3. ....3..8. .8...2.5. .1..45.7. 5.7....1. ......... ....9...1 .......4.",
        (
            "r4c1 r4c3 r4c7 r4c9 have 3469 in row 4: r4c4-3 r4c4-6 r4c4-9 r4c5-6",
            "stuck",
        ),
    ),
    (
        "four cells of a region",
        put(7, 0, cyclic(7)),
        "...5... .....1. ....... ....... 1.7.... 7.....2 .4...6.",
        (
            "r2c3 r4c1 r5c7 r6c6 have 2346 in region 4: r3c2-2 r3c2-3 r3c2-6 r7c5-2 r7c5-3",
            "stuck",
        ),
    ),
    (
        "four cells of a diagonal",
        put(8, 1, boxes(8, 2, 4)),
        "........ .5.....1 .2.5..8. ....2... .8.....4 ..3..... ...2...7 ......6.",
        (
            "r2c7 r3c6 r5c4 r7c2 have 1467 in diagonal 2: r1c8-6 r8c1-1 r8c1-4 r8c1-7",
            "stuck",
        ),
    ),
    (
        "the first unit with four cells",
        put(6, 0, boxes(6, 2, 3)),
        "1....5 ...... ...... ...5.1 5..... 36..5.",
        (
            "r3c1 r3c4 r3c5 r3c6 have 2346 in row 3: r3c2-2 r3c2-3 r3c2-4 r3c3-2 r3c3-3 r3c3-4 r3c3-6",
            "3 of row 3 in region 4: r4c5",
            "stuck",
        ),
    ),
    (
        "four cells, up to the end",
        put(9, 0, boxes(9, 3, 3)),
        "2..45..9. ...17...6 .792....5 3...6...4 .8..2..73 ......5.. .426..71. ........2 9........",
        (
            "r9c9=8 alone",
            "r7c9=9 alone",
            "r6c9=1 alone",
            "r1c9=7 alone",
            "r2c6=9 in row 2",
            "r9c6=2 in row 9",
            "3 of row 7 in region 8: r8c4 r8c5 r8c6 r9c4 r9c5",
            "r6c4=3 in column 4",
            "1 of column 5 in region 8: r8c6",
            "r3c5 r7c5 have 38 in column 5: r6c5-8 r8c5-8",
            "r1c2 r2c2 r8c2 r9c2 have 1356 in column 2: r4c2-1 r4c2-5 r6c2-6",
            "r4c2 r4c7 r4c8 have 289 in row 4: r4c4-8 r4c4-9 r4c6-8",
            "r8c4=8 in column 4",
            "r7c5=3 alone",
            "r3c5=8 alone",
            "r7c6=5 alone",
            "r7c1=8 alone",
            "r9c4=7 alone",
            "r4c4=5 alone",
            "r5c4=9 alone",
            "r5c7=6 alone",
            "r6c5=4 alone",
            "r5c6=1 alone",
            "r4c6=7 alone",
            "r4c3=1 alone",
            "r6c6=8 alone",
            "r6c8=2 alone",
            "r4c8=8 alone",
            "r4c7=9 alone",
            "r4c2=2 alone",
            "r6c2=9 alone",
            "r8c6=4 alone",
            "r8c7=3 alone",
            "r9c5=1 alone",
            "r8c5=9 alone",
            "r9c7=4 alone",
            "r3c7=1 alone",
            "r1c7=8 alone",
            "r2c7=2 alone",
            "r1c2=1 in row 1",
            "r2c3=8 in row 2",
            "r8c1=1 in row 8",
            "r8c3=7 in row 8",
            "r6c3=6 alone",
            "r1c3=3 alone",
            "r1c6=6 alone",
            "r2c2=5 alone",
            "r2c1=4 alone",
            "r2c8=3 alone",
            "r3c1=6 alone",
            "r3c6=3 alone",
            "r3c8=4 alone",
            "r5c1=5 alone",
            "r5c3=4 alone",
            "r6c1=7 alone",
            "r8c2=6 alone",
            "r8c8=5 alone",
            "r9c2=3 alone",
            "r9c3=5 alone",
            "r9c8=6 alone",
            "done",
        ),
    ),
)


class StepsTest(unittest.TestCase):
    def test_cases(self):
        for about, square, rows, lines in CASES:
            with self.subTest(about=about):
                self.assertEqual(last(square, load(drawn(rows.replace(" ", ""))), steps()), told_lines(*lines))

    def test_each_sort_of_step_is_among_the_cases(self):
        lines = " / ".join(line for case in CASES for line in case[3])
        for pattern in (
            r"r\dc\d=\d alone",
            r"r\dc\d=\d in row \d",
            r"r\dc\d=\d in column \d",
            r"r\dc\d=\d in region \d",
            r"r\dc\d=\d in diagonal \d",
            r"\d of row \d in region \d: r",
            r"\d of column \d in region \d: r",
            r"\d of region \d in row \d: r",
            r"\d of region \d in column \d: r",
            r"\d of diagonal \d in region \d: r",
            r"/ r\dc\d r\dc\d have \d\d in row \d: r\dc\d-\d",
            r"/ r\dc\d r\dc\d have \d\d in column \d: r\dc\d-\d",
            r"/ r\dc\d r\dc\d have \d\d in region \d: r\dc\d-\d",
            r"/ r\dc\d r\dc\d have \d\d in diagonal \d: r\dc\d-\d",
            r"/ r\dc\d r\dc\d r\dc\d have \d\d\d in ",
            r"/ r\dc\d r\dc\d r\dc\d r\dc\d have \d\d\d\d in ",
            r"\d of rows \d \d in columns \d \d: r",
            r"\d of columns \d \d in rows \d \d: r",
            r"\d of rows \d \d \d in columns \d \d \d: r",
            r"\d of columns \d \d \d in rows \d \d \d: r",
        ):
            with self.subTest(pattern=pattern):
                self.assertRegex(lines, pattern)

    def test_byte_for_byte(self):
        square = put(2, 0, [0, 0, 1, 1])
        text = b"r1c2=2 alone\nr2c1=2 alone\nr2c2=1 alone\ndone\n"
        self.assertEqual(last(square, load([1, 0, 0, 0]), steps()), [44] + list(text))

    def test_all_given(self):
        full = load(drawn("1234" "3412" "2143" "4321"))
        self.assertEqual(last(put(4, 0, boxes(4, 2, 2)), full, steps()), [5, 100, 111, 110, 101, 10])

    def test_all_but_one_given(self):
        made = load(drawn("1234" "3412" "21.3" "4321"))
        self.assertEqual(last(put(4, 0, boxes(4, 2, 2)), made, steps()), told_lines("r3c3=4 alone", "done"))

    def test_stuck_at_once(self):
        for n in range(2, 10):
            with self.subTest(n=n):
                self.assertEqual(last(put(n, 0, rows_as_regions(n)), steps()), told_lines("stuck"))
        self.assertEqual(last(put(9, 0, boxes(9, 3, 3)), steps()), [6, 115, 116, 117, 99, 107, 10])

    def test_stuck_though_there_is_no_filling(self):
        square = put(6, 0, cyclic(6))
        self.assertEqual(run(square, count(), steps())[1:], [[0], told_lines("stuck")])

    def test_cells_that_changed_their_regions_are_not_linked_by_that(self):
        # r1c2 and r3c3 have to have the same digit, but no unit has both.
        region = rows_as_regions(4)
        region[1] = 2
        region[10] = 0
        made = load(drawn("1..." ".2.." "...." "...3"))
        self.assertEqual(
            last(put(4, 0, region), made, steps()),
            told_lines(
                "2 of row 1 in region 1: r3c3", "3 of column 2 in region 3: r3c1", "r2c1=3 in column 1", "stuck",
            ),
        )

    def test_none_at_once_where_a_cell_has_nothing_left(self):
        made = load(drawn("123." "...4" "...." "...."))
        self.assertEqual(last(put(4, 0, rows_as_regions(4)), made, steps()), [5, 110, 111, 110, 101, 10])

    def test_none_at_once_where_a_unit_has_no_place_left(self):
        # Each cell has a candidate, and r1c3 just one, but row 1 has no place for the 3.
        made = load(drawn("12.." "...." "..3." "...3"))
        self.assertEqual(last(put(4, 0, rows_as_regions(4)), made, steps()), told_lines("none"))

    def test_none_where_only_a_diagonal_has_no_place_left(self):
        made = load(drawn("....." "....4" "..45." ".2..." "3...5"))
        self.assertEqual(last(put(5, 0, rows_as_regions(5)), made, steps()), told_lines("stuck"))
        self.assertEqual(last(put(5, 1, rows_as_regions(5)), made, steps()), told_lines("none"))

    def test_none_later_on(self):
        made = load(drawn("42...." "..1.5." ".1...." "..3..4" "....6." "..6..2"))
        self.assertEqual(
            last(put(6, 0, boxes(6, 2, 3)), made, steps()),
            told_lines("r1c3=5 alone", "r2c4=2 in row 2", "none"),
        )

    def test_room(self):
        square = put(2, 0, [0, 0, 1, 1])
        answer = told_lines("r1c2=2 alone", "r2c1=2 alone", "r2c2=1 alone", "done")
        for room, expected in (
            (LOWEST, [-1]),
            (-1, [-1]),
            (0, [-6]),
            (43, [-6]),
            (44, answer),
            (45, answer),
            (1048576, answer),
            (1048577, [-1]),
            (HIGHEST, [-1]),
        ):
            with self.subTest(room=room):
                self.assertEqual(last(square, load([1, 0, 0, 0]), steps(room)), expected)

    def test_no_filling_is_no_refusal(self):
        square = put(2, 1, [0, 0, 1, 1])
        self.assertEqual(run(square, steps(), steps(0), steps(-1))[2:], [[-6], [-1]])

    def test_nothing_changes(self):
        made = drawn("1..." "..3." ".4.." "...2")
        square = put(4, 0, boxes(4, 2, 2))
        for room in (-1, 0, 1000):
            with self.subTest(room=room):
                self.assertEqual(run(square, load(made), steps(room), cells(), count())[3:], [told(made), [1]])
        self.assertEqual(last(square, load(made), steps(), steps()), last(square, load(made), steps()))


if __name__ == "__main__":
    unittest.main()
