"""Runs examples as the document writes them: `>>>` lines, each with what it tells below."""


def told_by(line, names):
    """What the line tells: the text of its value, None for a statement or the value None."""
    try:
        code = compile(line, "example", "eval")
    except SyntaxError:
        exec(compile(line, "example", "exec"), names)
        return None
    try:
        value = eval(code, names)
    except ValueError as error:
        parts = ", ".join(f"{key}={worth!r}" for key, worth in vars(error).items())
        return f"raises {type(error).__name__}({parts})"
    return None if value is None else repr(value)


def run_examples(text, names):
    """The triples (line, what it told, what was wanted) of all examples, run in turn."""
    lines = text.strip().splitlines()
    rows = []
    for at, line in enumerate(lines):
        if line.startswith(">>> "):
            below = lines[at + 1] if at + 1 < len(lines) else ">>> "
            wanted = None if below.startswith(">>> ") else below
            rows.append((line[4:], told_by(line[4:], names), wanted))
    return rows
