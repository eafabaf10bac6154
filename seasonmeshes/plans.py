"""What plans take, which of them are right, and which of these are chosen.

A catch is a list: how many too small fish are taken, then how many of each kind are landed. The limits, and what a
fish is worth, stand in lists of the same order, so that too small fish and kinds are reckoned alike. A day's choices
are the catch of each net and, last, that of the boat that stays, so that a plan's number is an index into them;
the days handed in here are lists of choices.
"""


def catch_of_net(shoals, leasts, mesh):
    catch = [0] * (1 + len(leasts))
    for kind, size, many in shoals:
        if size > mesh:
            place = 1 + kind if size >= leasts[kind] else 0
            catch[place] += many
    return catch


def choices_of_day(shoals, leasts, meshes):
    choices = [catch_of_net(shoals, leasts, mesh) for mesh in meshes]
    choices.append([0] * (1 + len(leasts)))
    return choices


def added(catch, more):
    return [one + other for one, other in zip(catch, more)]


def is_right(catch, limits):
    for many, limit in zip(catch, limits):
        if many > limit:
            return False
    return True


def worth_of(catch, worths):
    return sum([many * worth for many, worth in zip(catch, worths)])


def changes_of(plan):
    changes = 0
    for day in range(1, len(plan)):
        if plan[day] != plan[day - 1]:
            changes += 1
    return changes


def catch_of_plan(plan, days, limits):
    catch = [0] * len(limits)
    for number, choices in zip(plan, days):
        catch = added(catch, choices[number])
    return catch


def right_plans(days, limits):
    """All right plans, each with its catch; the earlier stands ahead of the later."""
    plans = [([], [0] * len(limits))]
    for choices in days:
        longer = []
        for plan, catch in plans:
            for number, more in enumerate(choices):
                together = added(catch, more)
                # A later day takes no fish away, so what isn't right by now never will be.
                if is_right(together, limits):
                    longer.append((plan + [number], together))
        plans = longer
    return plans


def best_answer(days, limits, worths):
    most = -1
    fewest = 0
    as_good = 0
    earliest = []
    for plan, catch in right_plans(days, limits):
        worth = worth_of(catch, worths)
        if worth < most:
            continue
        changes = changes_of(plan)
        if worth > most or changes < fewest:
            most = worth
            fewest = changes
            as_good = 1
            earliest = plan
        elif changes == fewest:
            as_good += 1
    return [most, fewest, as_good] + earliest


def plain_number(choices, catch, limits, worths):
    staying = len(choices) - 1
    chosen = staying
    # Below any worth: a net that lands nothing still goes ahead of staying.
    most = -1
    for net in range(staying):
        worth = worth_of(choices[net], worths)
        if worth > most and is_right(added(catch, choices[net]), limits):
            most = worth
            chosen = net
    return chosen


def plain_answer(days, limits, worths):
    plan = []
    catch = [0] * len(limits)
    for choices in days:
        number = plain_number(choices, catch, limits, worths)
        catch = added(catch, choices[number])
        plan.append(number)
    return [worth_of(catch, worths)] + plan


def check_answer(plan, days, limits, worths):
    catch = catch_of_plan(plan, days, limits)
    if catch[0] > limits[0]:
        return [-6, catch[0]]
    for kind in range(len(limits) - 1):
        landed = catch[1 + kind]
        if landed > limits[1 + kind]:
            return [-7, kind, landed]
    return [worth_of(catch, worths), changes_of(plan)] + catch
