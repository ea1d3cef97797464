"""Needleblind: circuits that show nothing to whoever looks at a few of their wires in each beat."""
