"""Numbers counted by products, compared and divided for every n by finitely many places.

Each name is imported from the file that defines it: README.md lists them.
"""
