"""The gates of a shore in the fewest runs of neighbours with a throw each."""

from throwgate.lists import common_throw


def run_told(run, throw):
    return (run[0][0], run[-1][0], throw)


def fewest_runs(gates):
    runs = []
    run = []
    throw = None
    for gate in sorted(gates):
        longer = run + [gate]
        longer_throw = common_throw(longer)
        # One gate alone always has a throw, so a run that ends here is never empty.
        if longer_throw is None:
            runs.append(run_told(run, throw))
            longer = [gate]
            longer_throw = common_throw(longer)
        run = longer
        throw = longer_throw
    if len(run) > 0:
        runs.append(run_told(run, throw))
    return runs
