"""Scripts by line numbers that do what a patch does."""

from linepatches.errors import NoScriptForPatch
from linepatches.letters import bytes_of
from linepatches.marks import PUT_IN, TAKEN_OUT
from linepatches.scripts import MOST_COMMANDS
from linepatches.tokens import is_letters


def numbered_script(marks):
    """Give the commands for a patch, each as its line in one form, or refuse the patch."""
    commands = []
    deletion = []
    passed = 0
    for mark, line in marks:
        if mark == PUT_IN:
            commands.append(command_to_put_in(line, passed))
            continue
        commands.extend(deletion)
        passed += 1
        # A deletion ends what is done on its line, so it waits for what is put in behind the line.
        deletion = [f"if line {passed} delete ;\n"] if mark == TAKEN_OUT else []
    commands.extend(deletion)
    if len(commands) > MOST_COMMANDS or (passed == 0 and commands != []):
        raise NoScriptForPatch()
    return commands


def command_to_put_in(line, passed):
    """Give the command that puts a line in when so many lines of the first text are gone through."""
    if not is_letters(line):
        raise NoScriptForPatch()
    if passed == 0:
        return f"if line 1 before {line} ;\n"
    return f"if line {passed} after {line} ;\n"


def told_script(commands):
    """Give the numbers by which a script is told."""
    told = bytes_of("".join(commands))
    return [len(commands), len(told)] + told
