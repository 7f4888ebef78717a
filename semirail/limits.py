"""The limits that the whole program keeps."""

MOST = 300
DEEP = 60
LONG = 60
