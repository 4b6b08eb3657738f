"""Names of posts, of points within and of wires."""

NAME_SIGNS = "abcdefghijklmnopqrstuvwxyz0123456789"
LONGEST_NAME = 8


def is_name(text):
    if not 1 <= len(text) <= LONGEST_NAME:
        return False
    return all([sign in NAME_SIGNS for sign in text])
