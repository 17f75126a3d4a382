"""The fewest edits by which a text comes to one that a reader takes.

A table is a list, by places in the text, of dicts from states of the machine
to the least number of edits with which the rest of the text goes on from this
state to the end of a text that is taken, if it becomes so many signs at most.
"""

from readersapart.checks import LONGEST, check_text
from readersapart.machine import START, lacking, step
from readersapart.readers import check_reader

# The signs of all texts that are taken, in ascending order.
ALL_SIGNS = " ',-.0123456789e"

# More edits than any text needs.
NEVER = 1000


def edits(reader, text):
    """The least number of edits by which the text comes to one that the reader takes."""
    check_reader(reader)
    check_text(text)
    return _tables(text, _all_moves(reader))[-1][0][START]


def nearest(reader, text):
    """The shortest text, of these the least, to which the text comes by the fewest edits."""
    check_reader(reader)
    check_text(text)
    moves = _all_moves(reader)
    tables = _tables(text, moves)
    fewest = [table[0][START] for table in tables]
    length = fewest.index(fewest[-1])
    found, spots = "", [(0, START)]
    for left in reversed(range(length)):
        spots = _with_signs_left_out(spots, tables[left + 1])
        behind = {sign: _spots_behind(sign, text, moves, spots, tables[left + 1], tables[left]) for sign in ALL_SIGNS}
        sign = min([sign for sign in ALL_SIGNS if behind[sign]])
        found, spots = found + sign, behind[sign]
    return found


def _all_moves(reader):
    """For each state that a text comes to, a dict from the signs that may follow to the states behind them."""
    found = {}
    fresh = [START]
    while fresh:
        state = fresh.pop()
        if state not in found:
            behind = {sign: step(reader, state, sign) for sign in ALL_SIGNS}
            found[state] = {sign: behind[sign] for sign in behind if behind[sign] is not None}
            fresh.extend(list(found[state].values()))
    return found


def _tables(text, moves):
    """The tables for at most no sign, one sign and so on, up to the one from which on all are alike."""
    nexts = {state: sorted(set(list(moves[state].values()))) for state in moves}
    before = [{state: NEVER for state in moves} for _ in range(len(text) + 1)]
    tables = []
    # What the text comes to is a text, too, and has no more signs than one may have.
    for _ in range(LONGEST + 1):
        table = _next_table(text, moves, nexts, before)
        if table == before:
            break
        tables.append(table)
        before = table
    return tables


def _next_table(text, moves, nexts, before):
    """The table for one sign more than the table before."""
    changed = [_with_sign_told(row, nexts) for row in before]
    table = [{state: min(changed[-1][state], NEVER if lacking(state) > 0 else 0) for state in moves}]
    for at in reversed(range(len(text))):
        row = {}
        for state in moves:
            kept = moves[state].get(text[at])
            row[state] = min(
                changed[at][state], changed[at + 1][state], 1 + table[-1][state],
                NEVER if kept is None else before[at + 1][kept],
            )
        table.append(row)
    return table[::-1]


def _with_sign_told(row, nexts):
    """From each state the least number of edits, the first of which puts any next sign ahead of this row."""
    return {state: 1 + min([row[behind] for behind in nexts[state]], default=NEVER) for state in nexts}


def _with_signs_left_out(spots, table):
    """The spots, pairs of a place and a state, and those to which the best edits come that leave signs out."""
    found = {}
    for at, state in spots:
        found[(at, state)] = True
        while at + 1 < len(table) and table[at][state] == 1 + table[at + 1][state]:
            at += 1
            found[(at, state)] = True
    return list(found)


def _spots_behind(sign, text, moves, spots, table, later):
    """The spots to which the best edits come with this next sign."""
    found = {}
    for at, state in spots:
        behind = moves[state].get(sign)
        if behind is None:
            continue
        if table[at][state] == 1 + later[at][behind]:
            found[(at, behind)] = True
        if at < len(text) and table[at][state] == (0 if text[at] == sign else 1) + later[at + 1][behind]:
            found[(at + 1, behind)] = True
    return list(found)
