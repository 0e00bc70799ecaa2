"""Rows of draws counted by their weight, and the fractions that follow from that, all in whole numbers."""


def power(base, exponent):
    """base multiplied so often; 1 for no time at all, of 0 too."""
    result = 1
    for step in range(exponent):
        result = result * base
    return result


def common_divisor(first, second):
    """The greatest number that divides both, where second is 1 or more."""
    while second > 0:
        rest = first % second
        first = second
        second = rest
    return first


def lowest_terms(above, below):
    """A fraction as two numbers with nothing in common; 0 comes out as 0, 1."""
    shared = common_divisor(above, below)
    return [above // shared, below // shared]


def with_one_draw_more(weights, by_seen):
    """What rows_by_seen gives, for rows that are one draw longer."""
    longer = [0] * len(by_seen)
    for seen, heavy in enumerate(by_seen):
        for i, w in enumerate(weights):
            seen_then = seen | (1 << i)
            longer[seen_then] = longer[seen_then] + heavy * w
    return longer


def rows_by_seen(weights, n):
    """For each choice of kinds: how heavy all rows of n draws that have just these are, together.

    A choice is a place in the list: its bit i tells whether kind i is among them.
    """
    by_seen = [0] * (1 << len(weights))
    # The one row of no draws has no kinds, and nothing multiplied is 1.
    by_seen[0] = 1
    for draw in range(n):
        by_seen = with_one_draw_more(weights, by_seen)
    return by_seen


def count_seen(seen):
    """How many kinds a choice of rows_by_seen has."""
    count = 0
    while seen > 0:
        count = count + seen % 2
        seen = seen // 2
    return count


def rows_by_count(weights, n):
    """For 0, 1 and so on: how heavy all rows of n draws that have just so many kinds are, together."""
    by_count = [0] * (len(weights) + 1)
    for seen, heavy in enumerate(rows_by_seen(weights, n)):
        count = count_seen(seen)
        by_count[count] = by_count[count] + heavy
    return by_count


def chance_of_count(weights, n, k):
    """How likely n draws have just k different kinds."""
    below = power(sum(weights), n)
    if k > len(weights):
        return lowest_terms(0, below)
    return lowest_terms(rows_by_count(weights, n)[k], below)


def likeliest_count(weights, n):
    """The number of different kinds that n draws have likeliest; of like ones the least."""
    by_count = rows_by_count(weights, n)
    return by_count.index(max(by_count))


def mean_count(weights, n):
    """How many different kinds n draws have, on the average."""
    total = sum(weights)
    below = power(total, n)
    # An average is the sum of the kinds' own chances to be drawn, so no row has to be gone through.
    above = sum([below - power(total - w, n) for w in weights])
    return lowest_terms(above, below)


def mean_added(weights, n):
    """By how much one draw more than n makes the average greater."""
    total = sum(weights)
    # The draw behind n others adds a kind just where it is of a kind that these n don't have.
    above = sum([w * power(total - w, n) for w in weights])
    return lowest_terms(above, power(total, n + 1))


def even_mean(weights, n):
    """What the average would be if as many kinds were each as likely."""
    return mean_count([1] * len(weights), n)


def draws_needed(weights, a, b, most):
    """The least n for which the average is a by b, or more; None where no n up to most has that."""
    total = sum(weights)
    below = 1
    # For each kind, how heavy the rows are that don't have it. Powers grow along, since n may go far.
    missed = [1] * len(weights)
    for n in range(most + 1):
        above = len(weights) * below - sum(missed)
        if above * b >= a * below:
            return n
        below = below * total
        missed = [heavy * (total - w) for heavy, w in zip(missed, weights)]
    return None


def chance_seen(weights, i, n):
    """How likely kind i is drawn, once or oftener."""
    total = sum(weights)
    below = power(total, n)
    return lowest_terms(below - power(total - weights[i], n), below)


def chance_both(weights, i, j, n):
    """How likely kinds i and j, which are two, are both drawn."""
    total = sum(weights)
    below = power(total, n)
    lacking_one = power(total - weights[i], n) + power(total - weights[j], n)
    # Rows that have neither are among those without i and among those without j: they count once.
    lacking_both = power(total - weights[i] - weights[j], n)
    return lowest_terms(below - lacking_one + lacking_both, below)
