"""The least schemes of terms."""

from leastneeds.errors import Wrong
from leastneeds.findings import faults_in, stuck_fault
from leastneeds.study import Study


def scheme_of(program, term):
    """The scheme of a definition with this term, used nowhere; Wrong with its fault if it has one."""
    findings = program.findings
    study = Study(program.book, findings.schemes, [("", term)], None)
    faults = faults_in(study, program.picks, findings.schemes)
    found = faults[0] if 0 in faults else stuck_fault(term, findings.faulty, "")
    if found is not None:
        raise Wrong(found)
    return study.scheme_at(0)
