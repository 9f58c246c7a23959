"""What a name is, and what a path is."""

# Written out, as Python's own tests for letters and figures also take those of other alphabets.
NAME_SIGNS = "ABCDEFGHIJKLMNOPQRSTUVWXYZabcdefghijklmnopqrstuvwxyz0123456789._-"
LONGEST_NAME = 8
LONGEST_PATH = 60


def is_name(text):
    if len(text) < 1 or len(text) > LONGEST_NAME or text in (".", ".."):
        return False
    return all([sign in NAME_SIGNS for sign in text])


def is_path(text):
    if len(text) > LONGEST_PATH or not text.startswith("/"):
        return False
    return all([is_name(name) for name in path_names(text)])


def path_names(path):
    # The root has no names, but a split of what is behind its sign would tell an empty one.
    if path == "/":
        return []
    return path[1:].split("/")
