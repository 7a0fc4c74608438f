"""What several tests need: texts as lists of bytes, and small lists of signs."""

# The list of the document's run: "/" stands for the byte 10.
RUN_LIST = "sign A1/##./#.#/sign A2/#/sign A3/###/#.#/"


def as_bytes(text):
    return list(text.replace("/", "\n").encode("latin-1"))


def sign_text(name, rows="#", sounds=()):
    return " ".join(("sign", name) + tuple(sounds)) + "/" + "".join(row + "/" for row in rows.split("/"))


def list_of(*names):
    return "".join(sign_text(name) for name in names)


def long_pattern(size):
    """A right pattern of 64 atoms and so many bytes, 4,095 to 4,097."""
    short = "{" + ",".join(["A12"] * 14 + ["A1"] * 2) + "}"
    atoms = ["!" + short] + [short] * 63
    for step in range(size - 4096):
        atoms[step + 1] = "!" + atoms[step + 1]
    if size == 4095:
        atoms[0] = short
    pattern = " ".join(atoms)
    assert len(pattern) == size, len(pattern)
    return pattern
