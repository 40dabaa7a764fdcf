"""The plays of functions, and the machines that take just them."""

from playsalike.errors import BadPiece
from playsalike.heardmoves import moves_over
from playsalike.nets import net_of
from playsalike.pieces import Function, plan_of_function


def check_function(function):
    """Raises BadPiece(None) unless function is a Function."""
    if not isinstance(function, Function):
        raise BadPiece(None)


def function_moves(function):
    """The list, in order, of all moves of a function."""
    check_function(function)
    return moves_over(function.size, function.kind[1], plan_of_function(function).names)


def machine_of_function(function):
    """The machine that takes just the ended plays of the function."""
    check_function(function)
    return net_of_function(function).states.machine()


def net_of_function(function):
    """The net of all plays of the function."""
    return net_of(function.size, function.kind[1], plan_of_function(function),
                  function_moves(function))
