"""Row coders: coders of rows, read from their codes and decided for all rows."""
