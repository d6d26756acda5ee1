"""The faults of terms."""


def fault_of(program, term):
    """The fault of a definition with this term, without told scheme and used nowhere, or None."""
    return program.findings.fault_with(term, None)
