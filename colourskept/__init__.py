"""Colours kept up: a text coloured by rules, and no line coloured anew that needn't be."""
