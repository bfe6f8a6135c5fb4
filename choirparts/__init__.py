"""A choir's songs, whole: the calls are answered by choirparts.choir.answers."""
