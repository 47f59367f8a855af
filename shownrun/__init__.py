"""Shownrun: the whole run of a machine is shown by laid columns of which few places are looked at."""
