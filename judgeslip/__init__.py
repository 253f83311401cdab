"""Judgeslip: programs that read programs, and where each judge of them slips."""
