"""Programs as texts."""

from rowhaul.errors import NoText
from rowhaul.programs.forms import check_node, check_program, is_program
from rowhaul.texts.nodes import node_in, node_line, outputs_in, outputs_line


def node_text(program, node):
    """The line of a node."""
    check_node(program, node)
    return node_line(program[0][node])


def program_text(program):
    """The text of a program."""
    check_program(program)
    nodes, outputs = program
    return "\n".join([node_line(node) for node in nodes] + [outputs_line(outputs)])


def read_program(text):
    """The program that is just so written; or NoText with the number of the first line that can't be."""
    if not isinstance(text, str):
        raise NoText(0)
    lines = text.split("\n")
    nodes = ()
    for number, line in enumerate(lines):
        outputs = outputs_in(line)
        if outputs is not None:
            return _whole(nodes, outputs, lines, number)
        nodes = nodes + (node_in(line),)
        # Whatever nodes there are, an output can follow.
        if not is_program((nodes, (0,))) or node_line(nodes[-1]) != line:
            raise NoText(number)
    raise NoText(len(lines))


def _whole(nodes, outputs, lines, number):
    """The program of these nodes and the outputs of this line, which must be the last one."""
    if not is_program((nodes, outputs)) or outputs_line(outputs) != lines[number]:
        raise NoText(number)
    if number + 1 < len(lines):
        raise NoText(number + 1)
    return (nodes, outputs)
