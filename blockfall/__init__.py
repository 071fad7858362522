"""Blockfall: blocks of rows put in the order in which runs fall through most."""
