"""Papers: how many carvings a deed of a table waits for at least, for what it does, and which carvings will do."""

from ripestone.changes import needs_of
from ripestone.needs import closure, marked
from ripestone.turns import plan, slow_chain, turns


def turn_of(table, deed):
    goal = table.decider(deed)
    bench = table.weaver.bench
    return turns(bench.changes(), bench.settled())[goal]


def why(table, deed):
    goal = table.decider(deed)
    bench = table.weaver.bench
    return slow_chain(bench.changes(), bench.settled(), goal)


def needed_deeds(table, deed):
    needed = marked(closure(needs_of(table.weaver.bench.changes()), [table.decider(deed)]))
    return [other for other in range(table.many_deeds()) if other != deed and table.decider(other) in needed]


def waits_for(table, deed):
    standing = marked(table.standing())
    return [other for other in needed_deeds(table, deed) if other not in standing]


def way_for(table, deeds):
    goals = [table.decider(deed) for deed in deeds]
    bench = table.weaver.bench
    return plan(bench.changes(), bench.settled(), goals)
