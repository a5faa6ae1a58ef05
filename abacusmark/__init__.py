"""The marking of an abacus school's contests."""
