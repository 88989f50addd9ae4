"""Tintroads: colours led between devices by curves, tables and intents."""
