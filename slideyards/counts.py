"""Layer 8: how many stands can be come to."""

from math import factorial

from slideyards.basics import frozen, is_integer
from slideyards.chains import chain_of, is_chain, size_of
from slideyards.errors import BadRow
from slideyards.joining import given_by, is_named_stand, things_at_home
from slideyards.kinds import rows_from
from slideyards.lots import are_outs, check_returning, outs_of
from slideyards.yards import filled, is_named, is_stand_row


class Counted:
    """How many stands can be come to, and the outs and the chain that tell it."""

    def __init__(self, number, outs, chain):
        self.number = frozen(number)
        self.outs = frozen(outs)
        self.chain = frozen(chain)


def check_named(yard, stand):
    """Takes named stands alone, whose lots are returning."""
    if not is_named_stand(yard, stand):
        raise BadRow(stand)
    check_returning(yard, filled(stand))


def count_of(yard, stand):
    """How many stands moves lead to from a stand, itself among them."""
    if not is_stand_row(yard, stand):
        raise BadRow(stand)
    if is_named(stand):
        return counted(yard, stand).number
    outs = outs_of(yard, filled(stand))
    rows = rows_from(given_by(yard, outs), things_at_home(yard, outs, stand))
    return len(outs.rows) * len(rows)


def counted(yard, stand):
    """How many stands moves lead to from a named one, with the outs and the chain that tell it."""
    check_named(yard, stand)
    outs = outs_of(yard, filled(stand))
    chain = chain_of(len(outs.home), given_by(yard, outs))
    return Counted(len(outs.rows) * size_of(chain), outs, chain)


def is_counted(yard, stand, told):
    """Whether any value tells rightly how many stands moves lead to from a named one."""
    check_named(yard, stand)
    if not isinstance(told, Counted) or not are_outs(yard, filled(stand), told.outs):
        return False
    if not is_chain(len(told.outs.home), given_by(yard, told.outs), told.chain):
        return False
    return is_integer(told.number) and told.number == len(told.outs.rows) * size_of(told.chain)


def can_all(yard, stand):
    """Whether moves lead from a named stand to all stands of the lot with the same things."""
    told = counted(yard, stand)
    return told.number == len(told.outs.rows) * factorial(len(told.outs.home))
