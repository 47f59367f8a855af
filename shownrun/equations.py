"""The 38 equations of a run, and its later columns.

The worths of a row stand in the order of COLUMNS: pc has the number 0, add 3, a 12, da 16, t 22, A1 23, g1 29, R 35.
"""

from shownrun.shapes import row_fields

KINDS = ("all", "all", "all", "all", "all", "all", "all", "all", "all", "all", "all", "all", "all",
         "step", "step", "step", "first", "first", "first", "last",
         "all", "all", "all", "all", "step", "step",
         "first", "all", "all", "step", "first", "all", "all", "step", "first", "step", "last", "last")


def _address_worths(here):
    """Equations 1 to 3: the addresses of d, x and y."""
    fp, ap = here[1], here[2]
    same, call, stop = here[6], here[8], here[11]
    a, b, c, imm = here[12:16]
    da, xa, xv, ya = here[16], here[18], here[19], here[20]
    return [(1 - stop) * (da - fp - a - call * (ap - fp - a)),
            (1 - stop) * (xa - fp - b - call * (ap + 1 - fp - b)),
            (1 - stop) * (ya - fp - c - call * (ap + 2 - fp - c) - same * (xv + imm - fp - c))]


def _op_worths(here):
    """Equations 4 to 13: what holds for the worths of d, x and y."""
    pc, fp, a, imm = here[0], here[1], here[12], here[15]
    add, mul, setting, same, jz, call = here[3:9]
    from_here = here[10]
    dv, xv, yv, t = here[17], here[19], here[21], here[22]
    return [add * (dv - xv - yv), mul * (dv - xv * yv), setting * (dv - imm), same * (dv - yv),
            from_here * (dv - fp - imm), t - 1 + xv * yv, jz * xv * t,
            call * (dv - fp), call * (xv - pc - 1), call * (yv - fp - a)]


def _register_worths(here, behind):
    """Equations 14 to 16: what follows for pc, fp and ap."""
    pc, fp, ap = here[:3]
    next_pc, next_fp, next_ap = behind[:3]
    jz, call, ret, stop = here[7], here[8], here[9], here[11]
    c, imm, dv, xv, t = here[14], here[15], here[17], here[19], here[22]
    return [next_pc - pc - 1 + stop - jz * t * (imm - pc - 1) - call * (imm - pc - 1) - ret * (xv - pc - 1),
            next_fp - fp - call * (ap + 3 - fp) - ret * (dv - fp),
            next_ap - ap - call * (3 + c)]


def _end_worths(here, frame):
    """Equations 17 to 20: where a run begins and ends."""
    return [here[0], here[1] - 3, here[2] - 3 - frame, here[11] - 1]


def _sorted_pair(address, worth, next_address, next_worth):
    """What two sorted touches keep: equal ones, or an address that is greater by 1."""
    step = next_address - address - 1
    return [(next_address - address) * step, (next_worth - worth) * step]


def _sorted_worths(here, behind):
    """Equations 21 to 26: the sorted touches."""
    a1, v1, a2, v2, a3, v3 = here[23:29]
    return (_sorted_pair(a1, v1, a2, v2) + _sorted_pair(a2, v2, a3, v3)
            + _sorted_pair(a3, v3, behind[23], behind[24]))


def _product_worths(touches, products, next_touch, next_product, draws):
    """Equations 27 to 30, or 31 to 34: the products along one of the two lists of touches."""
    low, middle, high = products
    return [low - draws.touch(touches[0], touches[1]),
            middle - low * draws.touch(touches[2], touches[3]),
            high - middle * draws.touch(touches[4], touches[5]),
            next_product - high * draws.touch(next_touch[0], next_touch[1])]


def _closing_worths(here, behind, draws, closing):
    """Equations 35 to 38: the product of the lines, and both ends."""
    return [here[35] - draws.w + draws.mix(row_fields(here)),
            behind[35] - here[35] * (draws.w - draws.mix(row_fields(behind))),
            here[31] - here[34], here[35] - closing]


def _first_worths(here, behind, frame):
    """The equations 1 to 26, not yet read modulo a prime."""
    return (_address_worths(here) + _op_worths(here) + _register_worths(here, behind)
            + _end_worths(here, frame) + _sorted_worths(here, behind))


def equation_worths(here, behind, draws, *, frame, closing):
    """The worths of all equations, in order, for a row and the one behind it."""
    worths = (_first_worths(here, behind, frame)
              + _product_worths(here[16:22], here[29:32], behind[16:18], behind[29], draws)
              + _product_worths(here[23:29], here[32:35], behind[23:25], behind[32], draws)
              + _closing_worths(here, behind, draws, closing))
    return [worth % draws.p for worth in worths]


def equation(number, here, behind, draws, *, frame, closing):
    """The worth of an equation, for a row and the one behind it."""
    return equation_worths(here, behind, draws, frame=frame, closing=closing)[number - 1]


def _chained(factors, p):
    """The products of the first factor, the first two, and so on."""
    made, total = [], 1
    for factor in factors:
        total = total * factor % p
        made.append(total)
    return tuple(made)


def later(rows, draws):
    """The seven later columns of Rows."""
    touched = _chained([draws.touch(address, worth) for address, worth in rows.touch_pairs()], draws.p)
    ordered = _chained([draws.touch(address, worth) for address, worth in rows.sorted_touches()], draws.p)
    lines = [draws.w - draws.mix(row_fields(rows.row(at))) for at in range(len(rows))]
    return (touched[0::3], touched[1::3], touched[2::3], ordered[0::3], ordered[1::3], ordered[2::3],
            _chained(lines, draws.p))


def _is_due(kind, at, count):
    """Whether the equations of a kind hold at a row of so many."""
    if kind == "first":
        return at == 0
    if kind == "last":
        return at == count - 1
    return kind == "all" or at < count - 1


def _failing_pairs(worths):
    """The pairs (number, row) of the due equations that are not 0, for the worths of each row."""
    count = len(worths)
    return [(number, at) for number in range(1, len(worths[0]) + 1) for at in range(count)
            if _is_due(KINDS[number - 1], at, count) and worths[at][number - 1] != 0]


def _with_next(columns):
    """The pairs of each row and the one behind it; the first one stands behind the last."""
    rows = list(zip(*columns))
    return list(zip(rows, rows[1:] + rows[:1]))


def row_worths(columns, draws, *, frame, closing):
    """The list of the worths of all equations at each row, for 36 columns."""
    return [equation_worths(here, behind, draws, frame=frame, closing=closing)
            for here, behind in _with_next(columns)]


def failing(columns, draws, *, frame, closing):
    """The ascending pairs (number, row) of the equations that do not hold, for 36 columns."""
    return _failing_pairs(row_worths(columns, draws, frame=frame, closing=closing))


def failing_first(rows, *, frame):
    """The ascending pairs (number, row) of the equations 1 to 26 that do not hold, for Rows."""
    return _failing_pairs([[worth % rows.p for worth in _first_worths(here, behind, frame)]
                           for here, behind in _with_next(rows.columns)])
